import PyProof.Rows.All
import Wide.All
import OpenK.AllK
import Wide.FinOn
import HandS.ForMost
import HandS.Evl
import HandS.Walk
import HandS.IsInst
import HandS.Zip
import HandS.TupAny
import HandS.Flow
import HandS.Style
import HandS.More
import HandS.Conv
import HandS.StrMore
import HandS.Text
import HandS.Wide
import PySem.Challenge.RW_keyswithin_k14_whole_a_house_kept_deed_b
import HandS.Star
import KE.GoesEnum
import HandS.Exc
import HandS.ExcCtx
import HandS.HotCalls
import HandS.Comp
import HandS.Nested
import HandS.Lambda
import PyProof.ExcBaseAll.ValueError
import HandS.SetFor
import HandS.SetKeys
import HandS.TupMul
import HandS.SortInts
import HandS.Strs
import HandS.ExcInit
import HandS.ExcField
import HandS.ExcIs
import HandS.SlotsOwn
import HandS.CallLocal
import OpenK.KOps
import HandS.RaiseMore
import HandS.FStr
import HandS.EndTab
set_option Elab.async false
set_option linter.all false
set_option maxRecDepth 100000
set_option maxHeartbeats 4000000
namespace Kw
open PySem PySem.Spec PyProof.Rows L2 Evl
/-! ### what stays: the tuples -/
def KeepT (H H' : Hp) : Prop := ∀ b xs, Rd H b (.tup xs) → Rd H' b (.tup xs)
theorem KeepT.refl (H : Hp) : KeepT H H := fun _ _ h => h
theorem KeepT.trans {H H1 H2 : Hp} (a : KeepT H H1) (b : KeepT H1 H2) : KeepT H H2 := fun c o h => b c o (a c o h)
theorem KeepT.ex {H H' : Hp} (e : Ex H H') : KeepT H H' := fun b xs h => ex_rd e h
theorem KeepT.lst {H : Hp} {p : Addr} {xs ys : List V} (h : H p = some (.lst xs)) : KeepT H (upd H p (.lst ys)) := fun b zs r => by
  have nb : b ≠ p := by
    rintro rfl
    rcases r with r | ⟨o, r⟩
    · rw [h] at r; cases r
    · rw [h] at r; cases r
  rcases r with r | ⟨o, r⟩
  · exact .inl (by rw [upd_ne nb]; exact r)
  · exact .inr ⟨o, by rw [upd_ne nb]; exact r⟩
theorem keep_t {K : PySem.W.Frag} {H H' : Hp} {a : Addr} {xs : List V} (e : KeepT H H') (h : SqT K H a xs) : SqT K H' a xs := by
  rcases h with h | h
  · exact Or.inl (e _ _ h)
  · exact Or.inr h
/-! ### readings -/
def EvP (te : TE) (σ : L2.St) (H : Hp) (Φ : V → Hp → Prop) : Prop := ∀ H1, Ex H H1 → ∀ Q : VK, (∀ v H2, Ex H1 H2 → Φ v H2 → Q v H2) → te σ H1 Q
def EvW (wi : TI) (σ : L2.St) (H : Hp) (n : Nat) (Y : Nat → Hp → V → Hp → Prop) : Prop :=
  ∀ H1, Ex H H1 → ∀ R : It → Hp → Prop, (∀ (J : It) (G : Hp → Prop) (H2 : Hp), Ex H1 H2 → Walk J n G Y → (∀ H3, Ex H2 H3 → G H3) → R J H2) → wi σ H1 R
section
variable {K : PySem.W.Frag} {σ : L2.St} {H H' : Hp} {ta tb te tl : TE} {t u : TT} {x y z v : V} {r : R2} {Φ : V → Hp → Prop}
theorem EvP.ev (h : Ev te σ H v) : EvP te σ H (fun x _ => x = v) := fun H1 e Q q => h H1 e Q fun H2 e2 => q v H2 e2 rfl
theorem EvP.to (h : EvP te σ H (fun x _ => x = v)) : Ev te σ H v := fun H1 e Q q => h H1 e Q fun x H2 e2 hx => by
  subst hx
  exact q H2 e2
theorem EvP.mono (e : Ex H H') (h : EvP te σ H Φ) : EvP te σ H' Φ := fun H1 a Q q => h H1 (e.trans a) Q q
theorem EvP.imp {Ψ : V → Hp → Prop} (h : EvP te σ H Φ) (i : ∀ v H1, Ex H H1 → Φ v H1 → Ψ v H1) : EvP te σ H Ψ := fun H1 e Q q => h H1 e Q fun v H2 e2 hv => q v H2 e2 (i v H2 (e.trans e2) hv)
theorem ep_var {i : Nat} (h : σ[i]? = some (some v)) (hv : ∀ H1, Ex H H1 → Φ v H1) : EvP (tVar i) σ H Φ := fun H1 e _ q => ⟨v, h, q v H1 (Ex.refl H1) (hv H1 e)⟩
theorem ew_tup {a : Addr} {xs : List V} (h : Ev tl σ H (.ref a)) (hx : SqT K H a xs) : EvW (iTup K tl) σ H xs.length (YAt xs) := fun H1 e R r => h H1 e _ fun H2 e2 => ⟨a, rfl, ⟨xs, ex_t (e.trans e2) hx⟩, r _ _ H2 e2 walk_tup fun H3 e3 => ex_t ((e.trans e2).trans e3) hx⟩
theorem ew_list {a : Addr} {xs : List V} (h : Ev tl σ H (.ref a)) (hx : SqL K H a xs) : EvW (iList K tl) σ H xs.length (YAt xs) := fun H1 e R r => h H1 e _ fun H2 e2 => ⟨a, rfl, ⟨xs, ex_l (e.trans e2) hx⟩, r _ _ H2 e2 walk_list fun H3 e3 => ex_l ((e.trans e2).trans e3) hx⟩
theorem ew_listN {xs : List V} (h : EvL tl σ H xs) : EvW (iList K tl) σ H xs.length (YAt xs) := fun H1 e R r => h H1 e _ fun a H2 _ e2 hx => ⟨a, rfl, ⟨xs, sq_of hx⟩, r _ _ H2 e2 walk_list fun H3 e3 => sq_of (e3 _ _ hx)⟩
theorem walk_rng0 {n : Nat} : Walk (Itr 0 n) n (fun _ => True) (YFn fun (i : Nat) => .int (i : Int)) := by
  have e : (fun i : Nat => V.int ((0 : Int) + (i : Int))) = fun (i : Nat) => V.int (i : Int) := by
    funext i
    rw [Int.zero_add]
  rw [← e]
  exact walk_range
theorem ew_rng1 {ta : TA} {n : Nat} (h : EvA ta σ H [.int n]) (hn : n ≤ 100000) : EvW (iRng1 ta) σ H n (YFn fun (i : Nat) => .int (i : Int)) := fun H1 e R r => h H1 e _ fun H2 e2 => ⟨n, rfl, by omega, by omega, r _ _ H2 e2 (by rw [Int.toNat_natCast]; exact walk_rng0) fun _ _ => trivial⟩
theorem ew_str {z : Str} (h : Ev te σ H (.str z)) : EvW (iStr te) σ H z.cps.size (fun i H v H' => H' = H ∧ ∃ c, z.cps[i]? = some c ∧ v = .str ⟨#[c]⟩) := fun H1 e R r => h H1 e _ fun H2 e2 => ⟨z, rfl, r _ _ H2 e2 walk_str fun _ _ => trivial⟩
theorem cw_none {D : Addr} {y : V} {ys : List V} (e : Ex H H') (hD : H D = none) : Ex H (upd H' D (.lst ys)) := Ex.mut e hD
/-- a comprehension: which turns give, and what is true of what they give -/
def EvC (te : TE) (σ : L2.St) (H : Hp) (n : Nat) (f : Nat → Bool) (Φ : Nat → V → Hp → Prop) : Prop :=
  ∀ H1, Ex H H1 → ∀ Q : VK, (∀ p ys H2, H1 p = none → Ex H1 H2 → H2 p = some (.lst ys) → Paired (fun i y => Φ i y H2) ((List.range n).filter f) ys → Q (.ref p) H2) → te σ H1 Q
theorem paired_imp {α β : Type} {F G : α → β → Prop} {xs : List α} {ys : List β} (h : Paired F xs ys) (i : ∀ a b, F a b → G a b) : Paired G xs ys := Paired.mapP h i
theorem paired_app {α β : Type} {F : α → β → Prop} : ∀ {xs : List α} {ys : List β} {a : α} {b : β}, Paired F xs ys → F a b → Paired F (xs ++ [a]) (ys ++ [b])
  | _, _, _, _, .nil, h => .cons h .nil
  | _, _, _, _, .cons r t, h => .cons r (paired_app t h)
theorem lc_gen {wi : TI} {g : TG} {vs : List Nat} {n : Nat} {Y : Nat → Hp → V → Hp → Prop} (hi : EvW wi σ H n Y) (hn : n ≤ 100000) (f : Nat → Bool) (Φ : Nat → V → Hp → Prop)
    (st : ∀ i y H H', KeepT H H' → Φ i y H → Φ i y H')
    (turn : ∀ i x H1 H2 (Q : L2.St → Hp → Prop), Ex H H1 → i < n → Y i H1 x H2 → (∀ σ2 H3, Ex H1 H3 → wipe σ2 vs = wipe σ vs → EvT t σ2 H3 (f i) → (f i = true → EvP te σ2 H3 (Φ i)) → Q σ2 H3) → g x (wipe σ vs) H2 Q) :
    EvC (tLc wi g t te vs) σ H n f Φ := by
  intro H0 e Q q
  refine hi H0 e _ fun J G H1 e1 w hG => ?_
  intro D hD
  refine lc_it w (Pv := fun i H' => Ex H1 H' ∧ ∃ ys, H' D = some (.lst ys) ∧ Paired (fun i y => Φ i y H') ((List.range i).filter f) ys) ⟨Ex.new hD, [], upd_same, .nil⟩
    (fun i H' _ p => hG H' p.1) (fun i x H' H2 hi' p y => ?_) (fun H' p => ?_)
  · obtain ⟨p1, ys, p2, p3⟩ := p
    refine turn i x H' H2 _ ((e.trans e1).trans p1) hi' y fun σ2 H3 e3 hw ht he => ⟨hw, ?_⟩
    refine ht H3 (Ex.refl H3) _ fun H4 e4 => ?_
    have hlen : ys.length ≤ i := by
      rw [← Paired.length p3]
      have := List.length_filter_le f (List.range i)
      rw [List.length_range] at this
      exact this
    have eD : H4 D = some (.lst ys) := e4 _ _ (e3 _ _ p2)
    cases hf : f i with
    | false =>
      show Ex H1 H4 ∧ _
      refine ⟨(p1.trans e3).trans e4, ys, eD, ?_⟩
      rw [List.range_succ, List.filter_append, List.filter_cons, if_neg (by rw [hf]; decide), List.filter_nil, List.append_nil]
      exact paired_imp p3 fun a b h => st a b _ _ (KeepT.ex (e3.trans e4)) h
    | true =>
      show te σ2 H4 _
      refine (he hf) H4 e4 _ fun y H5 e5 hy => ?_
      have eD5 : H5 D = some (.lst ys) := e5 _ _ eD
      refine ⟨ys, eD5, sz_lt (by omega), Ex.mut (((p1.trans e3).trans e4).trans e5) hD, ys ++ [y], upd_same, ?_⟩
      rw [List.range_succ, List.filter_append, List.filter_cons, if_pos hf, List.filter_nil]
      exact paired_app (paired_imp p3 fun a b h => st a b _ _ ((KeepT.ex ((e3.trans e4).trans e5)).trans (KeepT.lst eD5)) h) (st _ _ _ _ (KeepT.lst eD5) hy)
  · obtain ⟨p1, ys, p2, p3⟩ := p
    exact q D ys H' (fresh_back e1 hD) (e1.trans p1) p2 p3
theorem paired_map {α β : Type} {v : α → β} : ∀ {xs : List α} {ys : List β}, Paired (fun i y => y = v i) xs ys → ys = xs.map v
  | _, _, .nil => rfl
  | _, _, .cons r t => by rw [r, List.map_cons, paired_map t]
theorem EvC.val {n : Nat} {f : Nat → Bool} {v : Nat → V} (h : EvC te σ H n f (fun i y _ => y = v i)) : EvL te σ H (((List.range n).filter f).map v) := fun H1 e Q q =>
  h H1 e Q fun p ys H2 hp e2 h2 pr => q p H2 hp e2 (by rw [h2, paired_map pr])
theorem el_lc {wi : TI} {g : TG} {vs : List Nat} {n : Nat} {Y : Nat → Hp → V → Hp → Prop} (hi : EvW wi σ H n Y) (hn : n ≤ 100000) (f : Nat → Bool) (v : Nat → V) {xs : List V} (hx : ((List.range n).filter f).map v = xs)
    (turn : ∀ i x H1 H2 (Q : L2.St → Hp → Prop), Ex H H1 → i < n → Y i H1 x H2 → (∀ σ2 H3, Ex H1 H3 → wipe σ2 vs = wipe σ vs → EvT t σ2 H3 (f i) → (f i = true → Ev te σ2 H3 (v i)) → Q σ2 H3) → g x (wipe σ vs) H2 Q) :
    EvL (tLc wi g t te vs) σ H xs := by
  subst hx
  exact EvC.val (lc_gen hi hn f (fun i y _ => y = v i) (fun _ _ _ _ _ h => h) fun i x H1 H2 Q e hi' y k => turn i x H1 H2 Q e hi' y fun σ2 H3 e3 hw ht he => k σ2 H3 e3 hw ht fun hf => EvP.ev (he hf))
end
/-- the built-in names are what they were -/
structure Bu (mg : Str → Option Value) : Prop where
  isi : mg "isinstance" = none
  tup : mg "tuple" = none
  lst : mg "list" = none
  str : mg "str" = none
  len : mg "len" = none
  all : mg "all" = none
  zip : mg "zip" = none
  rng : mg "range" = none
  int : mg "int" = none
  max : mg "max" = none
  min : mg "min" = none
  srt : mg "sorted" = none
  enu : mg "enumerate" = none
  sum : mg "sum" = none
  abs : mg "abs" = none
  rpr : mg "repr" = none
  set : mg "set" = none
  bool : mg "bool" = none
  ver : mg "ValueError" = none
  any : mg "any" = none
section
variable {K : PySem.W.Frag} {σ : L2.St} {H H' : Hp} {ta tb tc te tl : TE} {t u : TT} {x y z v : V} {r r' : R2}
theorem ty_tup {K : PySem.W.Frag} {H : Hp} {a : Addr} {xs : List V} (h : SqT K H a xs) : TyX K H (.ref a) (.type "tuple") := by
  rcases h with (h | ⟨o, h⟩) | ⟨o, its, n, h1, h2, _⟩
  · exact .base (.tup h)
  · exact .fTuple h
  · exact .kTuple h1 h2
def IsT (K : PySem.W.Frag) (xs : List V) : V → Hp → Prop := fun v H => ∃ p, v = .ref p ∧ SqT K H p xs
theorem ep_slT {tl th : TO} {a : Addr} {xs : List V} {lo hi : Option Int} (h : Ev te σ H (.ref a)) (h1 : EvO tl σ H lo) (h2 : EvO th σ H hi) (hs : SqT K H a xs) : EvP (tSl (rSlA K) te tl th) σ H (IsT K (cutV xs lo hi)) := fun H1 e Q q =>
  h H1 e _ fun H2 e2 => h1 H2 (e.trans e2) _ fun H3 e3 => h2 H3 ((e.trans e2).trans e3) _ fun H4 e4 =>
    ⟨a, xs, rfl, ex_t (((e.trans e2).trans e3).trans e4) hs, fun hf => q _ H4 ((e2.trans e3).trans e4) ⟨a, rfl, by
      have : cutV xs lo hi = xs := by
        unfold cutV
        rw [hf.1, hf.2]
        simp
      rw [this]
      exact ex_t (((e.trans e2).trans e3).trans e4) hs⟩, fun hf p hp => q _ _ (((e2.trans e3).trans e4).trans (Ex.new hp)) ⟨p, rfl, st_of upd_same⟩⟩
theorem cut1 (xs : List V) : cutV xs (some 1) none = xs.drop 1 := by
  unfold cutV
  rw [show HT.sIx xs.length 0 (some 1) = min 1 xs.length from HT.sIx_nat xs.length 0 1, HT.sIx_none]
  cases xs with
  | nil => rfl
  | cons x r =>
    rw [show min 1 (x :: r).length = 1 by
      rw [List.length_cons]
      omega]
    show (List.take ((x :: r).length - 1) r) = r
    rw [List.length_cons, Nat.add_sub_cancel]
    exact List.take_length
theorem walk_zipT {a b : Addr} {xs ys : List V} {n : Nat} (hn : n = min xs.length ys.length) : Walk (RZ.ItzT K a b) n (fun H => SqT K H a xs ∧ SqT K H b ys) (YPair (fun i => xs[i]?) (fun i => ys[i]?)) := by
  subst hn
  refine ⟨fun i _ hi q => ?_, fun _ q => ⟨xs, ys, q.1, q.2, by omega⟩, fun i H v H' _ q y => ?_⟩
  · have h1 : i < xs.length := by omega
    have h2 : i < ys.length := by omega
    exact ⟨xs, ys, xs[i], ys[i], q.1, q.2, by simp [h1], by simp [h2]⟩
  · obtain ⟨T, x, z, h1, h2, h3, h4, h5⟩ := y
    exact ⟨T, x, z, h1, h2, h3, h4 xs q.1, h5 ys q.2⟩
theorem ew_zipT {a : Addr} {xs ys : List V} {n : Nat} (hn : n = min xs.length ys.length) (h : Ev ta σ H (.ref a)) (hx : SqT K H a xs) (hb : EvP tb σ H (IsT K ys)) : EvW (RZ.iZipA K (tCons ta (tCons tb tNil))) σ H n (YPair (fun i => xs[i]?) (fun i => ys[i]?)) := fun H1 e R r =>
  h H1 e _ fun H2 e2 => hb H2 (e.trans e2) _ fun v H3 e3 ⟨p, hv, hp⟩ => by
    subst hv
    exact ⟨a, p, xs, ys, rfl, .inr ⟨ex_t ((e.trans e2).trans e3) hx, hp, r _ _ H3 (e2.trans e3) (walk_zipT hn) fun H4 e4 => ⟨ex_t (((e.trans e2).trans e3).trans e4) hx, ex_t e4 hp⟩⟩⟩
theorem ev_all {bs : List Bool} (h : EvL te σ H (bs.map V.bl)) : Ev (tCB (rAll K) (tCons te tNil)) σ H (.bl (bs.all id)) := fun H1 e Q q =>
  h H1 e _ fun p H2 _ e2 hp => ⟨p, bs, rfl, sq_of hp, q H2 e2⟩
/-- a comprehension without a test -/
theorem filter_true {n : Nat} : (List.range n).filter (fun _ => true) = List.range n := List.filter_eq_self.mpr (fun _ _ => rfl)
theorem et_yes {σ : L2.St} {H : Hp} : EvT tYes σ H true := fun H1 _ Q q => q H1 (Ex.refl H1)
/-- a def of the text: where it stands, how it binds -/
structure Df (K : PySem.W.Frag) (mg : Str → Option Value) (x : Str) (st : Stmt) (ps : List Str) (f : Addr) (fd : FuncData) : Prop where
  F : Fun K x x st f fd
  g : mg x = some (.ref f)
  b : Binds K fd ps []
theorem pcall {X : Cx} {k : Nat} {f : Addr} {fd : FuncData} {ps : List Str} {sp : Sp} {x : Str} {st : Stmt} {p pos : Pos} {e : Expr} {es : List Expr} {t : TA} (D : Df X.K X.mg x st ps f fd) (G : FnOk X.prog X.w X.K X.mg X.base CX0 k f fd ps sp) (hr : Room k X.A) (ha : PA X (e :: es) t) (hg : Gl X x := by rfl)
    (h1 : (x == ("__debug__" : Str)) = false := by decide) (h2 : starEach (e :: es) X.env = (false, eval e X.env) :: starEach es X.env := by rfl) (h3 : (backTo pos (starEach es X.env)).any (·.1) = false := by rfl) :
    PE X (.Call (.Name x p) (e :: es) [] pos) (tCall sp [] E0 t) := pe_call G hr hg D.g D.F.kp D.b .nil pass0 ha h1 h2 h3
theorem SpV.of {sp : Sp} {vs : List V} {H : Hp} {z : V} (h : ∀ H1, Ex H H1 → ∀ Q : VK, RetV z H1 Q → ∀ E, sp vs H1 Q E) : SpV sp (vs ++ []) H z := by
  rw [List.append_nil]
  exact fun H1 e Q q E => h H1 e Q q E
theorem ev_chain {k l : Bool} (ha : Ev ta σ H x) (hb : Ev tb σ H y) (hc : Ev tc σ H z) (h1 : RV r x y H (.bl k)) (h2 : RV r' y z H (.bl l)) : Ev (tChain r r' ta tb tc) σ H (.bl (k && l)) := fun H1 e Q q =>
  ha H1 e _ fun H2 e2 => hb H2 (e.trans e2) _ fun H3 e3 => h1 H3 ((e.trans e2).trans e3) _ fun H4 e4 => ⟨k, rfl, by
    cases k with
    | true =>
      show tc σ H4 _
      exact hc H4 (((e.trans e2).trans e3).trans e4) _ fun H5 e5 => h2 H5 ((((e.trans e2).trans e3).trans e4).trans e5) Q fun H6 e6 => q H6 ((((e2.trans e3).trans e4).trans e5).trans e6)
    | false =>
      show Q (.bl false) H4
      exact q H4 ((e2.trans e3).trans e4)⟩
theorem ev_isi {T U : String} {b : Bool} (ha : Ev ta σ H x) (hb : Ev tb σ H (.ty U)) (ht : ∀ H1, Ex H H1 → TyX K H1 x (.type T)) (hk : kitB T U = some b) : Ev (tCB (rIsi K) (tCons ta (tCons tb tNil))) σ H (.bl b) := fun H1 e Q q =>
  ha H1 e _ fun H2 e2 => hb H2 (e.trans e2) _ fun H3 e3 => ⟨x, .ty U, _, _, b, rfl, .ty _, ht H3 ((e.trans e2).trans e3), kit_ty hk, q H3 (e2.trans e3)⟩
theorem rv_le {i j : Int} : RV (rI0 fun i j => .bl (decide (i ≤ j))) (.int i) (.int j) H (.bl (decide (i ≤ j))) := rv_I0
theorem range_map_get {α β : Type} (l : List α) (d : α) (g : α → β) : (List.range l.length).map (fun i => g (l.getD i d)) = l.map g := by
  apply List.ext_getElem
  · simp
  · intro i h1 h2
    simp only [List.getElem_map, List.getElem_range]
    congr 1
    rw [List.getD_eq_getElem?_getD, List.getElem?_eq_getElem (by simpa using h2)]
    rfl
theorem paired_get {α β : Type} {F : α → β → Prop} : ∀ {xs : List α} {ys : List β} {i : Nat} {x : α}, Paired F xs ys → xs[i]? = some x → ∃ y, ys[i]? = some y ∧ F x y
  | _, _, _, _, .nil, e => by simp at e
  | _, _, 0, _, .cons r _, e => by simp at e; subst e; exact ⟨_, rfl, r⟩
  | _, _, i + 1, x, .cons _ t, e => by
    obtain ⟨u, h1, h2⟩ := paired_get (i := i) (x := x) t (by simpa using e)
    exact ⟨u, by simpa using h1, h2⟩
theorem paired_len {α β : Type} {F : α → β → Prop} {xs : List α} {ys : List β} (h : Paired F xs ys) : xs.length = ys.length := Paired.length h
/-- all([f(x) for x in t]) where each is so -/
theorem ev_allT {vs : List Nat} {wi : TI} {n : Nat} {Y : Nat → Hp → V → Hp → Prop} {g : TG} (hi : EvW wi σ H n Y) (hn : n ≤ 100000)
    (turn : ∀ i x H1 H2 (Q : L2.St → Hp → Prop), Ex H H1 → i < n → Y i H1 x H2 → (∀ σ2 H3, Ex H1 H3 → wipe σ2 vs = wipe σ vs → Ev te σ2 H3 (.bl true) → Q σ2 H3) → g x (wipe σ vs) H2 Q) :
    Ev (tCB (rAll K) (tCons (tLc wi g tYes te vs) tNil)) σ H (.bl true) := by
  refine ev_is (ev_all (K := K) (bs := List.replicate n true) ?_) (by rw [List.all_replicate]; simp)
  refine el_lc hi hn (fun _ => true) (fun i => .bl true) (by rw [filter_true, List.map_replicate, List.map_const', List.length_range]) (fun i x H1 H2 Q e hi hy k => ?_)
  exact turn i x H1 H2 Q e hi hy fun σ2 H3 e3 hw he => k σ2 H3 e3 hw et_yes fun _ => he
theorem ev_lenT {p : Addr} {xs : List V} (ha : Ev ta σ H (.ref p)) (h : SqT K H p xs) : Ev (tCB (rLenS K) (tCons ta tNil)) σ H (.int (xs.length : Int)) := fun H1 e Q q =>
  ha H1 e _ fun H2 e2 => ⟨p, xs, rfl, Or.inr (ex_t (e.trans e2) h), q H2 e2⟩
theorem rv_gt {i j : Int} : RV (rI0 fun i j => .bl (decide (j < i))) (.int i) (.int j) H (.bl (decide (j < i))) := rv_I0
theorem at0 {x y : V} : atI [x, y] 0 = some x := atI_nat (j := 0) rfl
theorem at1 {x y : V} : atI [x, y] 1 = some y := atI_nat (j := 1) rfl
theorem yes_do {σ : L2.St} {H : Hp} {A B : Hp → Prop} (h : A H) : tYes σ H (fun b H => if b = true then A H else B H) := iteT (A := A H) (B := B H) h
/-- [y for x in .. for y in t], t a tuple -/
theorem el_lc2 {wi : TI} {g : TG} {vs vs1 : List Nat} {n j : Nat} {Y : Nat → Hp → V → Hp → Prop} (hi : EvW wi σ H n Y) (L : Nat → List V) (hn : ∀ i ≤ n, ((List.range i).flatMap L).length ≤ 100000) {xs : List V} (hx : (List.range n).flatMap L = xs)
    (turn : ∀ i x H1 H2 (Q : L2.St → Hp → Prop), Ex H H1 → i < n → Y i H1 x H2 → (∀ σ2 H3 a, Ex H1 H3 → wipe σ2 vs = wipe σ vs → Ev tl σ2 H3 (.ref a) → SqT K H3 a (L i) → (∀ y, wipe ((wipe σ2 vs1).set j (some y)) vs1 = wipe σ2 vs1 ∧ ((wipe σ2 vs1).set j (some y))[j]? = some (some y)) → Q σ2 H3) → g x (wipe σ vs) H2 Q) :
    EvL (tLc2 wi g tYes (iTup K tl) (gName j) tYes (tVar j) vs vs1) σ H xs := by
  subst hx
  intro H0 e Q q
  refine hi H0 e _ fun J G H1 e1 w hG => ?_
  intro D hD
  refine ⟨fun i m H' => m = n - i ∧ i ≤ n ∧ Ex H1 H' ∧ H' D = some (.lst ((List.range i).flatMap L)), ⟨n, by simp, Nat.zero_le _, Ex.new hD, upd_same⟩, ?_⟩
  rintro i m H' ⟨rfl, hi', p1, p2⟩
  by_cases hlt : i < n
  · refine .inr ⟨w.goes i H' hlt (hG H' p1), fun H'' => Ex H1 H'' ∧ H'' D = some (.lst ((List.range (i + 1)).flatMap L)), fun H'' p' => ⟨n - (i + 1), by omega, rfl, hlt, p'⟩, fun x H2 hy => ?_⟩
    refine turn i x H' H2 _ ((e.trans e1).trans p1) hlt (w.yields i H' x H2 hlt (hG H' p1) hy) fun σ2 H3 a e3 hw htl hL hset => ⟨hw, ?_⟩
    refine yes_do ?_
    refine htl H3 (Ex.refl H3) _ fun H4 e4 => ⟨a, rfl, ⟨_, ex_t e4 hL⟩, ?_⟩
    refine ⟨fun c m H5 => m = (L i).length - c ∧ c ≤ (L i).length ∧ SqT K H5 a (L i) ∧ Ex H1 H5 ∧ H5 D = some (.lst ((List.range i).flatMap L ++ (L i).take c)), ⟨_, rfl, Nat.zero_le _, ex_t e4 hL, (p1.trans e3).trans e4, by rw [List.take_zero, List.append_nil]; exact e4 _ _ (e3 _ _ p2)⟩, ?_⟩
    rintro c m H5 ⟨rfl, hc, g1, g2, g3⟩
    have hsum : (List.range (i + 1)).flatMap L = (List.range i).flatMap L ++ L i := by
      rw [List.range_succ, List.flatMap_append]
      simp
    by_cases hcl : c < (L i).length
    · refine .inr ⟨⟨_, _, g1, List.getElem?_eq_getElem hcl⟩, fun H6 => SqT K H6 a (L i) ∧ Ex H1 H6 ∧ H6 D = some (.lst ((List.range i).flatMap L ++ (L i).take (c + 1))), fun H6 ⟨r1, r2, r3⟩ => ⟨_, by omega, rfl, hcl, r1, r2, r3⟩, fun y H6 ⟨eH, hy2⟩ => ?_⟩
      subst eH
      have hy' : (L i)[c]? = some y := hy2 _ g1
      refine ⟨(hset y).1, ?_⟩
      refine yes_do ?_
      refine ⟨y, (hset y).2, _, g3, ?_, keep_t (KeepT.lst g3) g1, Ex.mut g2 hD, ?_⟩
      · refine sz_lt ?_
        have h1 := hn (i + 1) hlt
        rw [hsum, List.length_append] at h1
        rw [List.length_append, List.length_take]
        omega
      · rw [upd_same, List.append_assoc, List.take_add_one, hy']
        rfl
    · refine .inl ⟨⟨_, g1, by omega⟩, g2, ?_⟩
      rw [g3, hsum, List.take_of_length_le (by omega)]
  · have e' : i = n := by omega
    subst e'
    exact .inl ⟨w.stops H' (hG H' p1), q D H' (fresh_back e1 hD) (e1.trans p1) p2⟩
theorem str_beq (a b : Str) : (a == b) = decide (a = b) := by
  by_cases h : a = b
  · subst h
    simp
  · rw [decide_eq_false h]
    exact beq_eq_false_iff_ne.mpr h
theorem inV_str (c : Str) (hs : List Str) : inV (.str c) (hs.map V.str) = decide (c ∈ hs) := by
  induction hs with
  | nil => rfl
  | cons a r ih =>
    show (eqV (.str a) (.str c) || inV (.str c) (r.map V.str)) = _
    rw [ih]
    show ((a == c) || _) = _
    rw [str_beq]
    by_cases h : a = c
    · subst h
      simp
    · have h' : ¬ c = a := fun z => h z.symm
      simp [h, h']
theorem inV_int (c : Int) (hs : List Int) : inV (.int c) (hs.map V.int) = decide (c ∈ hs) := by
  induction hs with
  | nil => rfl
  | cons a r ih =>
    show (eqV (.int a) (.int c) || inV (.int c) (r.map V.int)) = _
    rw [ih]
    show ((a == c) || _) = _
    by_cases h : a = c
    · subst h
      simp
    · have h' : ¬ c = a := fun z => h z.symm
      simp [h, h']
theorem flat_strs (hs : List Str) : (hs.map V.str).all flatV = true := by
  rw [List.all_map]
  exact List.all_eq_true.mpr fun _ _ => rfl
abbrev vN (i : Nat) : V := .int (i : Int)
theorem flat_nats (hs : List Nat) : (hs.map vN).all flatV = true := by
  rw [List.all_map]
  exact List.all_eq_true.mpr fun _ _ => rfl
theorem inV_nat (c : Nat) (hs : List Nat) : inV (vN c) (hs.map vN) = decide (c ∈ hs) := by
  have e : hs.map vN = (hs.map fun (i : Nat) => (i : Int)).map V.int := by rw [List.map_map]; rfl
  rw [e]
  show inV (.int (c : Int)) _ = _
  rw [inV_int]
  congr 1
  rw [List.mem_map]
  apply propext
  constructor
  · rintro ⟨a, h1, h2⟩
    have : a = c := by omega
    subst this
    exact h1
  · exact fun h => ⟨c, h, rfl⟩
theorem rIx_seq {p : Addr} {xs : List V} {i : Int} (h : SqL K H p xs ∨ SqT K H p xs) (ha : atI xs i = some v) : RV (rIx K) (.ref p) (.int i) H v := fun H1 e Q q =>
  h.elim (fun h => .inl ⟨p, xs, i, v, rfl, rfl, ex_l e h, ha, q H1 (Ex.refl H1)⟩) (fun h => .inr (.inl ⟨p, xs, i, v, rfl, rfl, ex_t e h, ha, q H1 (Ex.refl H1)⟩))
theorem paired_get2 {α β : Type} {F : α → β → Prop} : ∀ {xs : List α} {ys : List β} {i : Nat} {y : β}, Paired F xs ys → ys[i]? = some y → ∃ x, xs[i]? = some x ∧ F x y
  | _, _, _, _, .nil, e => by simp at e
  | _, _, 0, _, .cons r _, e => by simp at e; subst e; exact ⟨_, rfl, r⟩
  | _, _, i + 1, x, .cons _ t, e => by
    obtain ⟨u, h1, h2⟩ := paired_get2 (i := i) (y := x) t (by simpa using e)
    exact ⟨u, by simpa using h1, h2⟩
theorem flatMap_range {α β : Type} (l : List α) (d : α) (g : α → List β) : (List.range l.length).flatMap (fun i => g (l.getD i d)) = l.flatMap g := by
  rw [List.flatMap_def, List.flatMap_def, range_map_get l d g]
theorem flatMap_take {α β : Type} (l : List α) (d : α) (g : α → List β) (i : Nat) (hi : i ≤ l.length) : (List.range i).flatMap (fun i => g (l.getD i d)) = (l.take i).flatMap g := by
  have h := flatMap_range (l.take i) d g
  rw [List.length_take, Nat.min_eq_left hi] at h
  rw [← h]
  rw [List.flatMap_def, List.flatMap_def]
  congr 1
  apply List.map_congr_left
  intro j hj
  have := List.mem_range.mp hj
  congr 1
  rw [List.getD_eq_getElem?_getD, List.getD_eq_getElem?_getD, List.getElem?_take_of_lt this]
theorem map_flatMap' {α β γ : Type} (l : List α) (f : β → γ) (g : α → List β) : l.flatMap (fun i => (g i).map f) = (l.flatMap g).map f := by
  induction l with
  | nil => rfl
  | cons a r ih => rw [List.flatMap_cons, List.flatMap_cons, List.map_append, ih]
def rTupOf (K : PySem.W.Frag) : List V → Hp → VK → Prop := fun xs H Q => ∃ p ys, xs = [.ref p] ∧ ((SqL K H p ys ∧ ∀ l, H l = none → Q (.ref l) (upd H l (.tup ys))) ∨ (SqT K H p ys ∧ Q (.ref p) H))
theorem call_tupOf {X : Cx} : CallR X (.type "tuple") (rTupOf X.K) := call_tuple_of
theorem eu_tupL {p : Addr} {xs : List V} (ha : Ev ta σ H (.ref p)) (h : SqL K H p xs) : EvU (tCB (rTupOf K) (tCons ta tNil)) σ H xs := fun H1 e Q q =>
  ha H1 e _ fun H2 e2 => ⟨p, xs, rfl, .inl ⟨ex_l (e.trans e2) h, fun l hl => q l _ (fresh_back e2 hl) (e2.trans (Ex.new hl)) upd_same⟩⟩
theorem eu_tupN {xs : List V} (ha : EvL ta σ H xs) : EvU (tCB (rTupOf K) (tCons ta tNil)) σ H xs := fun H1 e Q q =>
  ha H1 e _ fun p H2 _ e2 hp => ⟨p, xs, rfl, .inl ⟨sq_of hp, fun l hl => q l _ (fresh_back e2 hl) (e2.trans (Ex.new hl)) upd_same⟩⟩
theorem el_listT {p : Addr} {xs : List V} (ha : Ev ta σ H (.ref p)) (h : SqT K H p xs) : EvL (tCB (rListS K) (tCons ta tNil)) σ H xs := fun H1 e Q q =>
  ha H1 e _ fun H2 e2 => ⟨p, xs, rfl, Or.inr (ex_t (e.trans e2) h), fun l hl => q l _ (fresh_back e2 hl) (e2.trans (Ex.new hl)) upd_same⟩
theorem el_cat {l : Addr} {xs zs : List V} (ha : Ev ta σ H (.ref l)) (hl : H l = some (.lst xs)) (hb : EvL tb σ H zs) (hn : xs.length + zs.length ≤ 100000) : EvL (tOp rCat ta tb) σ H (xs ++ zs) := fun H1 e Q q =>
  ha H1 e _ fun H2 e2 => hb H2 (e.trans e2) _ fun b H3 _ e3 hb' => ⟨l, b, xs, zs, rfl, rfl, e3 _ _ (e2 _ _ (e _ _ hl)), hb', sz_of hn, fun p hp => q p _ (fresh_back (e2.trans e3) hp) ((e2.trans e3).trans (Ex.new hp)) upd_same⟩
theorem el_catN {xs zs : List V} (ha : EvL ta σ H xs) (hb : EvL tb σ H zs) (hn : xs.length + zs.length ≤ 100000) : EvL (tOp rCat ta tb) σ H (xs ++ zs) := fun H1 e Q q =>
  ha H1 e _ fun l H2 _ e2 hl => hb H2 (e.trans e2) _ fun b H3 _ e3 hb' => ⟨l, b, xs, zs, rfl, rfl, e3 _ _ hl, hb', sz_of hn, fun p hp => q p _ (fresh_back (e2.trans e3) hp) ((e2.trans e3).trans (Ex.new hp)) upd_same⟩
theorem et_truL {p : Addr} {xs : List V} (ha : Ev ta σ H (.ref p)) (h : SqL K H p xs) : EvT (fun σ H Q => ta σ H fun x H' => ∃ k, TruV K x H' k ∧ Q k H') σ H (!xs.isEmpty) := fun H1 e Q q =>
  ha H1 e _ fun H2 e2 => ⟨_, .inl ⟨xs, ex_l (e.trans e2) h, rfl⟩, q H2 e2⟩
theorem SpL.of {sp : Sp} {vs : List V} {H : Hp} {xs : List V} (h : ∀ H1, Ex H H1 → ∀ Q : VK, RetL xs H1 Q → ∀ E, sp vs H1 Q E) : SpL sp (vs ++ []) H xs := by
  rw [List.append_nil]
  exact fun H1 e Q q E => h H1 e Q q E
theorem filter_range_map {α β : Type} (l : List α) (d : α) (p : α → Bool) (g : α → β) : ((List.range l.length).filter (fun i => p (l.getD i d))).map (fun i => g (l.getD i d)) = (l.filter p).map g := by
  have e : (List.range l.length).map (fun i => l.getD i d) = l := by
    have := range_map_get l d id
    simpa using this
  conv => rhs; rw [← e, List.filter_map, List.map_map]
  rfl
theorem filter_both {α : Type} (l : List α) (p : α → Bool) : (l.filter p).length + (l.filter fun i => !p i).length = l.length := by
  induction l with
  | nil => rfl
  | cons a r ih =>
    cases h : p a with
    | true =>
      rw [List.filter_cons_of_pos h, List.filter_cons_of_neg (by rw [h]; decide), List.length_cons, List.length_cons]
      omega
    | false =>
      rw [List.filter_cons_of_neg (by rw [h]; decide), List.filter_cons_of_pos (by rw [h]; rfl), List.length_cons, List.length_cons]
      omega
/-- a list of tuples of box numbers -/
def TupsAt (K : PySem.W.Frag) (H : Hp) (ys : List V) (rs : List (List Nat)) : Prop := Paired (fun y r => ∃ a, y = .ref a ∧ SqT K H a (r.map vN)) ys rs
theorem TupsAt.keep {K : PySem.W.Frag} {H H' : Hp} {ys : List V} {rs : List (List Nat)} (e : KeepT H H') (h : TupsAt K H ys rs) : TupsAt K H' ys rs := paired_imp h fun _ _ ⟨a, h1, h2⟩ => ⟨a, h1, keep_t e h2⟩
def YTup (K : PySem.W.Frag) (rs : List (List Nat)) : Nat → Hp → V → Hp → Prop := fun i H x H' => H' = H ∧ ∃ a r, rs[i]? = some r ∧ x = .ref a ∧ SqT K H a (r.map vN)
/-- a new list of tuples of numbers -/
def EvR (K : PySem.W.Frag) (te : TE) (σ : L2.St) (H : Hp) (rs : List (List Nat)) : Prop := ∀ H1, Ex H H1 → ∀ Q : VK, (∀ p ys H2, H1 p = none → Ex H1 H2 → H2 p = some (.lst ys) → TupsAt K H2 ys rs → Q (.ref p) H2) → te σ H1 Q
theorem ew_tups {rs : List (List Nat)} (h : EvR K tl σ H rs) : EvW (iList K tl) σ H rs.length (YTup K rs) := fun H1 e R r => h H1 e _ fun p ys H2 hp e2 h2 hT => by
  refine ⟨p, rfl, ⟨ys, sq_of h2⟩, r _ (fun H => SqL K H p ys ∧ TupsAt K H ys rs) H2 e2 ?_ fun H3 e3 => ⟨sq_of (e3 _ _ h2), hT.keep (KeepT.ex e3)⟩⟩
  have w : Walk (Itl K p) ys.length (fun H => SqL K H p ys) (YAt ys) := walk_list
  rw [show ys.length = rs.length from paired_len hT] at w
  refine w.mono (fun H h => h.1) fun i H x H' hi hg hy => ?_
  obtain ⟨rfl, hx⟩ := hy
  obtain ⟨r, hr, a, rfl, ha⟩ := paired_get hg.2 hx
  exact ⟨rfl, a, r, hr, rfl, ha⟩
theorem flatten_take_le {α : Type} : ∀ (l : List (List α)) (i : Nat), (l.take i).flatten.length ≤ l.flatten.length
  | [], i => by simp
  | a :: r, 0 => by simp
  | a :: r, i + 1 => by
    have := flatten_take_le r i
    rw [List.take_succ_cons, List.flatten_cons, List.flatten_cons, List.length_append, List.length_append]
    omega
/-- a new tuple -/
def RetU (xs : List V) (H : Hp) (Q : VK) : Prop := ∀ p H2, H p = none → Ex H H2 → H2 p = some (.tup xs) → Q (.ref p) H2
def SpU (sp : Sp) (vs : List V) (H : Hp) (xs : List V) : Prop := ∀ H1, Ex H H1 → ∀ Q : VK, (∀ p H2, H1 p = none → Ex H1 H2 → H2 p = some (.tup xs) → Q (.ref p) H2) → ∀ E : XK, sp vs H1 Q E
theorem eu_call {σ : L2.St} {H : Hp} {sp : Sp} {vs xs : List V} {E : XK} {ta : TA} (h : EvA ta σ H vs) (hs : ∀ H1, Ex H H1 → ∀ Q : VK, RetU xs H1 Q → ∀ E, sp vs H1 Q E) : EvU (tCall sp [] E ta) σ H xs := fun H1 e Q q =>
  h H1 e _ fun H2 e2 => by
    rw [List.append_nil]
    exact hs H2 (e.trans e2) Q (fun p H3 hp e3 h3 => q p H3 (fresh_back e2 hp) (e2.trans e3) h3) E
theorem er_call {σ : L2.St} {H : Hp} {sp : Sp} {vs : List V} {rs : List (List Nat)} {E : XK} {ta : TA} (h : EvA ta σ H vs) (hs : ∀ H1, Ex H H1 → ∀ Q : VK, (∀ p ys H2, H1 p = none → Ex H1 H2 → H2 p = some (.lst ys) → TupsAt K H2 ys rs → Q (.ref p) H2) → ∀ E, sp vs H1 Q E) : EvR K (tCall sp [] E ta) σ H rs := fun H1 e Q q =>
  h H1 e _ fun H2 e2 => by
    rw [List.append_nil]
    exact hs H2 (e.trans e2) Q (fun p ys H3 hp e3 h3 hT => q p ys H3 (fresh_back e2 hp) (e2.trans e3) h3 hT) E
theorem rgV_nat (n : Nat) : rgV 0 (n : Int) = (List.range n).map vN := by
  unfold rgV
  rw [Int.sub_zero, Int.toNat_natCast]
  apply List.map_congr_left
  intro i _
  rw [Int.zero_add]
theorem el_listR {n : Nat} (ha : Ev ta σ H (.int n)) (hn : n ≤ 100000) : EvL (tLstRg (tRg1 ta)) σ H ((List.range n).map vN) := fun H1 e Q q =>
  ha H1 e _ fun H2 e2 => ⟨n, rfl, RgOk.of_le (by omega) (by omega) (by omega) (by omega), fun p hp => q p _ (fresh_back e2 hp) (e2.trans (Ex.new hp)) (by rw [rgV_nat]; exact upd_same)⟩
theorem paired_flip {α β γ : Type} {F : β → γ → Prop} {g : α → γ} : ∀ {xs : List α} {ys : List β}, Paired (fun i y => F y (g i)) xs ys → Paired F ys (xs.map g)
  | _, _, .nil => .nil
  | _, _, .cons r t => .cons r (paired_flip t)
theorem q_asgC {te : TE} {σ : L2.St} {H : Hp} {D : Ends} {tz : TS} {i n : Nat} {f : Nat → Bool} {Φ : Nat → V → Hp → Prop} (h : EvC te σ H n f Φ) (k : ∀ p ys H1, H p = none → Ex H H1 → H1 p = some (.lst ys) → Paired (fun i y => Φ i y H1) ((List.range n).filter f) ys → tz D (σ.set i (some (.ref p))) H1) :
    tSeq (tAsg te (gName i)) tz D σ H := h H (Ex.refl H) _ k
end
end Kw
set_option Elab.async false
set_option linter.all false
set_option maxRecDepth 100000
set_option maxHeartbeats 4000000
namespace Kw
open PySem PySem.Spec PyProof.Rows L2 Evl
def topS (i : Nat) : Stmt := PySem.Challenge.pw_keyswithin_k14_whole_a_house_kept_deed_b.main.body.getD i (.Pass ⟨0, 0, 0, 0⟩)
def clsBody : Stmt → List Stmt
  | .ClassDef _ _ _ b _ _ _ _ _ _ _ => b
  | _ => []
def sMt (i j : Nat) : Stmt := (clsBody (topS i)).getD j (.Pass ⟨0, 0, 0, 0⟩)
end Kw
set_option Elab.async false
set_option linter.all false
set_option maxRecDepth 100000
set_option maxHeartbeats 4000000
namespace Kw
open PySem PySem.Spec PyProof.Rows L2 Evl
section
variable {K : PySem.W.Frag} {σ : L2.St} {H H' : Hp} {ta tb tc te tl : TE} {t u : TT} {x y z v : V} {r r' : R2}
theorem ew_zipL {a b : Addr} {xs ys : List V} {n : Nat} (hn : n = min xs.length ys.length) (h : Ev ta σ H (.ref a)) (hb : Ev tb σ H (.ref b)) (hx : SqL K H a xs) (hy : SqL K H b ys) : EvW (iZip K (tCons ta (tCons tb tNil))) σ H n (YPair (fun i => xs[i]?) (fun i => ys[i]?)) := fun H1 e R r =>
  h H1 e _ fun H2 e2 => hb H2 (e.trans e2) _ fun H3 e3 => ⟨a, b, xs, ys, rfl, ex_l ((e.trans e2).trans e3) hx, ex_l ((e.trans e2).trans e3) hy, r _ _ H3 (e2.trans e3) (walk_zip hn) fun H4 e4 => ⟨ex_l (((e.trans e2).trans e3).trans e4) hx, ex_l (((e.trans e2).trans e3).trans e4) hy⟩⟩
theorem ew_enumL {a : Addr} {xs : List V} (h : Ev ta σ H (.ref a)) (hx : SqL K H a xs) : EvW (iEnum K (tCons ta tNil)) σ H xs.length (YPair (fun i => some (.int (i : Nat))) (fun i => xs[i]?)) := fun H1 e R r =>
  h H1 e _ fun H2 e2 => ⟨a, xs, rfl, ex_l (e.trans e2) hx, r _ _ H2 e2 walk_enum fun H3 e3 => ex_l ((e.trans e2).trans e3) hx⟩
/-- [x, *xs] -/
theorem el_star1 {p : Addr} {xs : List V} (ha : Ev ta σ H x) (hb : Ev tb σ H (.ref p)) (h : SqL K H p xs ∨ SqT K H p xs) (hn : xs.length < 100000) : EvL (tLst (tCons ta (StX.tStar K tb tNil))) σ H (x :: xs) := fun H1 e Q q =>
  ha H1 e _ fun H2 e2 => hb H2 (e.trans e2) _ fun H3 e3 => ⟨p, xs, rfl, h.elim (fun h => .inr (ex_l ((e.trans e2).trans e3) h)) (fun h => .inl (ex_t ((e.trans e2).trans e3) h)), by
    show (x :: (xs ++ [])).length ≤ sizeLine ∧ ∀ p, H3 p = none → Q (.ref p) (upd H3 p (.lst (x :: (xs ++ []))))
    rw [List.append_nil]
    exact ⟨sz_of (by rw [List.length_cons]; omega), fun l hl => q l _ (fresh_back (e2.trans e3) hl) ((e2.trans e3).trans (Ex.new hl)) upd_same⟩⟩
theorem ev_sum {ns : List Int} (ha : EvL ta σ H (ns.map V.int)) : Ev (tCB (rSum K) (tCons ta tNil)) σ H (.int ns.sum) := fun H1 e Q q =>
  ha H1 e _ fun p H2 _ e2 h2 => ⟨p, ns, rfl, sq_of h2, q H2 e2⟩
theorem ev_sumV {p : Addr} {ns : List Int} (ha : Ev ta σ H (.ref p)) (h : SqL K H p (ns.map V.int)) : Ev (tCB (rSum K) (tCons ta tNil)) σ H (.int ns.sum) := fun H1 e Q q =>
  ha H1 e _ fun H2 e2 => ⟨p, ns, rfl, ex_l (e.trans e2) h, q H2 e2⟩
theorem nats_int (ns : List Nat) : ns.map vN = (ns.map fun (i : Nat) => (i : Int)).map V.int := by rw [List.map_map]; rfl
theorem sum_nats (ns : List Nat) : (ns.map fun (i : Nat) => (i : Int)).sum = (ns.sum : Nat) := by
  induction ns with
  | nil => rfl
  | cons a r ih => rw [List.map_cons, List.sum_cons, List.sum_cons, ih, Int.natCast_add]
/-- xs[i] of a new list -/
theorem ev_ixN {xs : List V} {i : Int} (ha : EvL ta σ H xs) (hb : Ev tb σ H (.int i)) (hv : atI xs i = some v) : Ev (tOp (rIxL K) ta tb) σ H v :=
  ev_opL1 ha (fun H1 e1 => hb.mono e1) fun p H1 hp _ => rv_ixL (sq_of hp) hv
theorem ew_rng2 {ta : TA} {a n : Nat} (h : EvA ta σ H [.int a, .int (n + a : Nat)]) (hn : n + a ≤ 100000) : EvW (iRng2 ta) σ H n (YFn fun (i : Nat) => .int ((a + i : Nat) : Int)) := fun H1 e R r => h H1 e _ fun H2 e2 => ⟨a, (n + a : Nat), rfl, ⟨by omega, by omega, by omega, by omega⟩, r _ _ H2 e2 (by
  have e : (fun i : Nat => V.int (((a : Nat) : Int) + (i : Int))) = fun (i : Nat) => V.int ((a + i : Nat) : Int) := by
    funext i
    rw [Int.natCast_add]
  rw [← e, show (((n + a : Nat) : Int) - (a : Int)).toNat = n by omega]
  exact walk_range) fun _ _ => trivial⟩
end
theorem getD_eq {α : Type} {l : List α} {i : Nat} {d x : α} (h : l[i]? = some x) : l.getD i d = x := by
  rw [List.getD_eq_getElem?_getD, h]
  rfl
theorem get_map {α : Type} {l : List α} {f : α → V} {i : Nat} {x : V} (d : α) (h : (l.map f)[i]? = some x) : x = f (l.getD i d) ∧ i < l.length ∧ l[i]? = some (l.getD i d) := by
  rw [List.getElem?_map] at h
  cases e : l[i]? with
  | none => rw [e] at h; cases h
  | some a =>
    rw [e] at h
    have hl : i < l.length := (List.getElem?_eq_some_iff.mp e).1
    rw [getD_eq e]
    exact ⟨(Option.some.inj h).symm, hl, rfl⟩
end Kw
set_option Elab.async false
set_option linter.all false
set_option maxRecDepth 100000
set_option maxHeartbeats 4000000
namespace Kw
open PySem PySem.Spec PyProof.Rows L2 Evl
/-! ### data: what stays -/
section
variable {K : PySem.W.Frag} {H H' : Hp}
mutual
theorem dp_ex (e : Ex H H') : ∀ (d : PyData) (v : V), Dp K H v d → Dp K H' v d
  | .none, _, h => by cases h; exact .non
  | .bool b, _, h => by cases h; exact .bl b
  | .int i, _, h => by cases h; exact .int i
  | .str x, _, h => by cases h; exact .str x
  | .list ds, _, h => by
    cases h with
    | lst h a => exact .lst (ex_l e h) (dpA_ex e ds _ a)
  | .tuple ds, _, h => by
    cases h with
    | tup h a => exact .tup (ex_t e h) (dpA_ex e ds _ a)
  | .dict _, _, h => by cases h
theorem dpA_ex (e : Ex H H') : ∀ (ds : List PyData) (vs : List V), DpAll K H vs ds → DpAll K H' vs ds
  | [], _, h => by cases h; exact .nil
  | d :: ds, _, h => by
    cases h with
    | cons a b => exact .cons (dp_ex e d _ a) (dpA_ex e ds _ b)
end
mutual
/-- no list within -/
def Fz : PyData → Bool
  | .none => true
  | .bool _ => true
  | .int _ => true
  | .str _ => true
  | .tuple ds => FzA ds
  | .list _ => false
  | .dict _ => false
def FzA : List PyData → Bool
  | [] => true
  | d :: ds => Fz d && FzA ds
end
mutual
theorem dp_keep (e : KeepT H H') : ∀ (d : PyData) (v : V), Fz d = true → Dp K H v d → Dp K H' v d
  | .none, _, _, h => by cases h; exact .non
  | .bool b, _, _, h => by cases h; exact .bl b
  | .int i, _, _, h => by cases h; exact .int i
  | .str x, _, _, h => by cases h; exact .str x
  | .list ds, _, f, h => by simp [Fz] at f
  | .tuple ds, _, f, h => by
    cases h with
    | tup h a => exact .tup (keep_t e h) (dpA_keep e ds _ (by simpa [Fz] using f) a)
  | .dict _, _, _, h => by cases h
theorem dpA_keep (e : KeepT H H') : ∀ (ds : List PyData) (vs : List V), FzA ds = true → DpAll K H vs ds → DpAll K H' vs ds
  | [], _, _, h => by cases h; exact .nil
  | d :: ds, _, f, h => by
    cases h with
    | cons a b =>
      simp only [FzA, Bool.and_eq_true] at f
      exact .cons (dp_keep e d _ f.1 a) (dpA_keep e ds _ f.2 b)
end
theorem dpA_paired : ∀ {vs : List V} {ds : List PyData}, DpAll K H vs ds → Paired (Dp K H) vs ds
  | _, [], h => by cases h; exact .nil
  | _, d :: ds, h => by
    cases h with
    | cons a b => exact .cons a (dpA_paired b)
theorem dpA_of : ∀ {vs : List V} {ds : List PyData}, Paired (Dp K H) vs ds → DpAll K H vs ds
  | _, _, .nil => .nil
  | _, _, .cons a b => .cons a (dpA_of b)
theorem dpA_len {vs : List V} {ds : List PyData} (h : DpAll K H vs ds) : vs.length = ds.length := paired_len (dpA_paired h)
theorem dpA_get {vs : List V} {ds : List PyData} {i : Nat} {v : V} (h : DpAll K H vs ds) (hv : vs[i]? = some v) : ∃ d, ds[i]? = some d ∧ Dp K H v d := paired_get (dpA_paired h) hv
theorem dpA_get2 {vs : List V} {ds : List PyData} {i : Nat} {d : PyData} (h : DpAll K H vs ds) (hd : ds[i]? = some d) : ∃ v, vs[i]? = some v ∧ Dp K H v d := paired_get2 (dpA_paired h) hd
theorem dpA_strs : ∀ zs : List Str, DpAll K H (zs.map V.str) (zs.map PyData.str)
  | [] => .nil
  | z :: r => .cons (.str z) (dpA_strs r)
theorem dpA_strs_inv : ∀ {vs : List V} {zs : List Str}, DpAll K H vs (zs.map PyData.str) → vs = zs.map V.str
  | _, [], h => by cases h; rfl
  | _, z :: r, h => by
    cases h with
    | cons a b =>
      cases a
      rw [dpA_strs_inv b]
      rfl
theorem dpA_nats : ∀ ns : List Nat, DpAll K H (ns.map vN) (ns.map fun (i : Nat) => PyData.int (i : Int))
  | [] => .nil
  | n :: r => .cons (.int _) (dpA_nats r)
theorem dpA_nats_inv : ∀ {vs : List V} {ns : List Nat}, DpAll K H vs (ns.map fun (i : Nat) => PyData.int (i : Int)) → vs = ns.map vN
  | _, [], h => by cases h; rfl
  | _, z :: r, h => by
    cases h with
    | cons a b =>
      cases a
      rw [dpA_nats_inv b]
      rfl
theorem dp_tup_inv {v : V} {ds : List PyData} (h : Dp K H v (.tuple ds)) : ∃ a xs, v = .ref a ∧ SqT K H a xs ∧ DpAll K H xs ds := by
  cases h with
  | tup h a => exact ⟨_, _, rfl, h, a⟩
theorem dp_lst_inv {v : V} {ds : List PyData} (h : Dp K H v (.list ds)) : ∃ a xs, v = .ref a ∧ SqL K H a xs ∧ DpAll K H xs ds := by
  cases h with
  | lst h a => exact ⟨_, _, rfl, h, a⟩
end
/-! ### its kind -/
def tyOf : PyData → String
  | .none => "NoneType"
  | .bool _ => "bool"
  | .int _ => "int"
  | .str _ => "str"
  | .list _ => "list"
  | .tuple _ => "tuple"
  | .dict _ => "dict"
section
variable {K : PySem.W.Frag} {σ : L2.St} {H H' : Hp} {ta tb tc te tl : TE} {t u : TT} {x y z v : V} {r r' : R2} {d : PyData}
theorem ty_lst {a : Addr} {xs : List V} (h : SqL K H a xs) : TyX K H (.ref a) (.type "list") := by
  rcases h with (h | ⟨o, h⟩) | ⟨o, its, n, h1, h2, _⟩
  · exact .base (.lst h)
  · exact .base (.frz h)
  · exact .kList h1 h2
theorem ty_dp (h : Dp K H v d) : TyX K H v (.type (tyOf d)) := by
  cases h with
  | non => exact .base .non
  | bl b => exact .base (.bl b)
  | int i => exact .base (.int i)
  | str x => exact .base (.str x)
  | lst h a => exact ty_lst h
  | tup h a => exact ty_tup h
theorem ev_isiD {U : String} {b : Bool} (ha : Ev ta σ H v) (hb : Ev tb σ H (.ty U)) (hd : Dp K H v d) (hk : kitB (tyOf d) U = some b) : Ev (tCB (rIsi K) (tCons ta (tCons tb tNil))) σ H (.bl b) := ev_isi ha hb (fun H1 e => ty_dp (dp_ex e _ _ hd)) hk
def isTupD : PyData → Bool
  | .tuple _ => true
  | _ => false
def isStrD : PyData → Bool
  | .str _ => true
  | _ => false
def isLstD : PyData → Bool
  | .list _ => true
  | _ => false
def isIntD : PyData → Bool
  | .int _ => true
  | _ => false
def isBolD : PyData → Bool
  | .bool _ => true
  | _ => false
theorem kit_tup (h : Dp K H v d) : kitB (tyOf d) "tuple" = some (isTupD d) := by
  cases h <;> first | exact (by decide +kernel : kitB "NoneType" "tuple" = some false) | exact (by decide +kernel : kitB "bool" "tuple" = some false) | exact (by decide +kernel : kitB "int" "tuple" = some false) | exact (by decide +kernel : kitB "str" "tuple" = some false) | exact (by decide +kernel : kitB "list" "tuple" = some false) | exact (by decide +kernel : kitB "tuple" "tuple" = some true)
theorem kit_str (h : Dp K H v d) : kitB (tyOf d) "str" = some (isStrD d) := by
  cases h <;> first | exact (by decide +kernel : kitB "NoneType" "str" = some false) | exact (by decide +kernel : kitB "bool" "str" = some false) | exact (by decide +kernel : kitB "int" "str" = some false) | exact (by decide +kernel : kitB "str" "str" = some true) | exact (by decide +kernel : kitB "list" "str" = some false) | exact (by decide +kernel : kitB "tuple" "str" = some false)
theorem kit_int (h : Dp K H v d) : kitB (tyOf d) "int" = some (isIntD d || isBolD d) := by
  cases h <;> first | exact (by decide +kernel : kitB "NoneType" "int" = some false) | exact (by decide +kernel : kitB "bool" "int" = some true) | exact (by decide +kernel : kitB "int" "int" = some true) | exact (by decide +kernel : kitB "str" "int" = some false) | exact (by decide +kernel : kitB "list" "int" = some false) | exact (by decide +kernel : kitB "tuple" "int" = some false)
theorem kit_bol (h : Dp K H v d) : kitB (tyOf d) "bool" = some (isBolD d) := by
  cases h <;> first | exact (by decide +kernel : kitB "NoneType" "bool" = some false) | exact (by decide +kernel : kitB "bool" "bool" = some true) | exact (by decide +kernel : kitB "int" "bool" = some false) | exact (by decide +kernel : kitB "str" "bool" = some false) | exact (by decide +kernel : kitB "list" "bool" = some false) | exact (by decide +kernel : kitB "tuple" "bool" = some false)
theorem kit_lst (h : Dp K H v d) : kitB (tyOf d) "list" = some (isLstD d) := by
  cases h <;> first | exact (by decide +kernel : kitB "NoneType" "list" = some false) | exact (by decide +kernel : kitB "bool" "list" = some false) | exact (by decide +kernel : kitB "int" "list" = some false) | exact (by decide +kernel : kitB "str" "list" = some false) | exact (by decide +kernel : kitB "list" "list" = some true) | exact (by decide +kernel : kitB "tuple" "list" = some false)
end
end Kw
set_option Elab.async false
set_option linter.all false
set_option maxRecDepth 100000
set_option maxHeartbeats 4000000
namespace Kw
open PySem PySem.Spec PyProof.Rows L2 Evl
/-! ### what is left of a text without its letters -/
def low (c : Nat) : Bool := decide (97 ≤ c) && decide (c ≤ 122)
def lowB (z : Str) : Bool := z.cps.toList.all low
theorem str_ext {a b : Str} (h : a.cps.toList = b.cps.toList) : a = b := by
  cases a; cases b
  congr 1
  exact Array.toList_inj.mp h
theorem str_nil (a : Str) : a = ("" : Str) ↔ a.cps.toList = [] := by
  constructor
  · rintro rfl
    rfl
  · intro h
    exact str_ext h
theorem strip_nil (goes : Nat → Bool) (x : Str) : Txt.stripBy goes true true x = ("" : Str) ↔ x.cps.toList.all goes = true := by
  have hx : x.length = x.cps.toList.length := rfl
  generalize hl : x.cps.toList = l at hx
  constructor
  · intro h
    rcases hall : l.all goes with _ | _
    · exfalso
      have htw := List.takeWhile_append_dropWhile (p := goes) (l := l)
      cases hd : l.dropWhile goes with
      | nil =>
        rw [hd, List.append_nil] at htw
        have : l.all goes = true := by
          rw [← htw]
          exact List.all_takeWhile
        rw [this] at hall
        cases hall
      | cons c r =>
        have hc : goes c = false := by
          have := List.head_dropWhile_not goes (l := l) (by rw [hd]; exact List.cons_ne_nil _ _)
          simpa [hd] using this
        have hdrop : l.drop (l.takeWhile goes).length = c :: r := by
          rw [hd] at htw
          have h3 := List.drop_left (l₁ := l.takeWhile goes) (l₂ := c :: r)
          rw [htw] at h3
          exact h3
        have hlen : l.length = (l.takeWhile goes).length + (r.length + 1) := by
          conv => lhs; rw [← htw, hd]
          rw [List.length_append, List.length_cons]
        have hrev : (((c :: r).reverse).takeWhile goes).length ≤ r.length := by
          rw [List.reverse_cons]
          rw [List.takeWhile_append]
          split
          · rw [List.takeWhile_cons_of_neg (by rw [hc]; decide), List.append_nil, List.length_reverse]
            exact Nat.le_refl _
          · have := (List.takeWhile_prefix (p := goes) (l := r.reverse)).length_le
            rw [List.length_reverse] at this
            exact this
        unfold Txt.stripBy at h
        split at h
        · rw [str_nil, hl] at h
          rw [h] at hlen
          simp at hlen
        · unfold PySem.stripped at h
          rw [str_nil] at h
          unfold PySem.Builtin.Str.strSub at h
          have h2 := congrArg List.length h
          simp only [PySem.stripLo, PySem.stripHi, if_true, hl, Array.length_toList, Array.size_extract, List.length_nil, hdrop] at h2
          rw [show x.cps.size = l.length by rw [← hl]; rfl, hx] at h2
          omega
    · rfl
  · intro hall
    have htw : l.takeWhile goes = l := by
      have h2 := List.all_eq_true.mp hall
      clear hall hl hx
      induction l with
      | nil => rfl
      | cons a r ih =>
        rw [List.takeWhile_cons_of_pos (h2 a (List.mem_cons_self ..)), ih fun b hb => h2 b (List.mem_cons_of_mem _ hb)]
    unfold Txt.stripBy
    split
    · next hs =>
      unfold PySem.stripSame PySem.stripLo at hs
      rw [hl, htw] at hs
      simp at hs
      rw [str_nil, hl]
      exact hs.1
    · rw [str_nil]
      unfold PySem.stripped PySem.Builtin.Str.strSub PySem.stripLo
      simp only [if_true, hl, htw]
      apply List.eq_nil_of_length_eq_zero
      rw [Array.length_toList, Array.size_extract]
      unfold PySem.stripHi
      rw [show x.cps.size = l.length by rw [← hl]; rfl]
      omega
theorem goes_low (c : Nat) : (Str.ofString "abcdefghijklmnopqrstuvwxyz").cps.contains c = low c := by
  have e : (Str.ofString "abcdefghijklmnopqrstuvwxyz").cps = ((List.range 26).map (97 + ·)).toArray := by decide +kernel
  rw [e]
  have h : ((List.range 26).map (97 + ·)).toArray.contains c = true ↔ low c = true := by
    rw [Array.contains_iff_mem, List.mem_toArray, List.mem_map]
    unfold low
    rw [Bool.and_eq_true, decide_eq_true_eq, decide_eq_true_eq]
    constructor
    · rintro ⟨i, hi, rfl⟩
      have := List.mem_range.mp hi
      omega
    · rintro ⟨h1, h2⟩
      exact ⟨c - 97, List.mem_range.mpr (by omega), by omega⟩
  cases h1 : ((List.range 26).map (97 + ·)).toArray.contains c <;> cases h2 : low c
  · rfl
  · rw [h.mpr h2] at h1; cases h1
  · rw [h.mp h1] at h2; cases h2
  · rfl
theorem strip_low (x : Str) : decide (V.str (Txt.stripChars x (Str.ofString "abcdefghijklmnopqrstuvwxyz")) = V.str ("" : Str)) = lowB x := by
  have h := strip_nil (Str.ofString "abcdefghijklmnopqrstuvwxyz").cps.contains x
  have e : x.cps.toList.all (Str.ofString "abcdefghijklmnopqrstuvwxyz").cps.contains = lowB x := by
    unfold lowB
    congr 1
    funext c
    exact goes_low c
  rw [e] at h
  cases hb : lowB x with
  | true => exact decide_eq_true (congrArg V.str (h.mpr hb))
  | false =>
    refine decide_eq_false fun z => ?_
    have := h.mp (V.str.inj z)
    rw [this] at hb
    cases hb
theorem joinL_nil : ∀ l : List (List Nat), TL.joinL [] l = l.flatten
  | [] => rfl
  | [p] => by simp [TL.joinL]
  | p :: q :: r => by
    show p ++ ([] ++ TL.joinL [] (q :: r)) = _
    rw [joinL_nil (q :: r)]
    rfl
theorem join_low (zs : List Str) : lowB (Txt.join ("" : Str) zs) = zs.all lowB := by
  unfold lowB
  rw [show (Txt.join ("" : Str) zs).cps.toList = (zs.map fun z => z.cps.toList).flatten from ?_]
  · rw [List.all_flatten, List.all_map]
    rfl
  · rw [TL.join_eq]
    exact (TL.tl_join ("" : Str) zs).trans (joinL_nil _)
end Kw
set_option Elab.async false
set_option linter.all false
set_option maxRecDepth 100000
set_option maxHeartbeats 4000000
namespace Kw
open PySem PySem.Spec PyProof.Rows L2 Evl
abbrev sPair : Stmt := topS 22
theorem scPair : FnScope ["thing"] ["thing"] (defScope sPair) := ⟨rfl, rfl, rfl, by decide +kernel, rfl, by decide +kernel, by decide +kernel⟩
abbrev sCols : Stmt := topS 23
theorem scCols : FnScope ["thing", "most", "before", "part"] ["thing", "most"] (defScope sCols) := ⟨rfl, rfl, rfl, by decide +kernel, rfl, by decide +kernel, by decide +kernel⟩
abbrev sBox : Stmt := topS 33
theorem scBox : FnScope ["thing"] ["thing"] (defScope sBox) := ⟨rfl, rfl, rfl, by decide +kernel, rfl, by decide +kernel, by decide +kernel⟩
abbrev sIsH : Stmt := topS 34
theorem scIsH : FnScope ["thing", "boxes", "hand", "box"] ["thing"] (defScope sIsH) := ⟨rfl, rfl, rfl, by decide +kernel, rfl, by decide +kernel, by decide +kernel⟩
abbrev sChk : Stmt := topS 35
theorem scChk : FnScope ["house"] ["house"] (defScope sChk) := ⟨rfl, rfl, rfl, by decide +kernel, rfl, by decide +kernel, by decide +kernel⟩
/-! ### what a reading tells of data -/
mutual
/-- no long text within -/
def StB : PyData → Bool
  | .none => true
  | .bool _ => true
  | .int _ => true
  | .str z => decide (z.length ≤ 1000)
  | .tuple ds => StBA ds
  | .list ds => StBA ds
  | .dict _ => false
def StBA : List PyData → Bool
  | [] => true
  | d :: ds => StB d && StBA ds
end
theorem stBA_mem : ∀ {ds : List PyData} {d : PyData}, StBA ds = true → d ∈ ds → StB d = true
  | [], _, _, h => by cases h
  | a :: r, d, h, hm => by
    simp only [StBA, Bool.and_eq_true] at h
    rcases List.mem_cons.mp hm with rfl | hm
    · exact h.1
    · exact stBA_mem h.2 hm
theorem stBA_of : ∀ {ds : List PyData}, (∀ d ∈ ds, StB d = true) → StBA ds = true
  | [], _ => by simp [StBA]
  | a :: r, h => by
    simp only [StBA, Bool.and_eq_true]
    exact ⟨h a (List.mem_cons_self ..), stBA_of fun d hd => h d (List.mem_cons_of_mem _ hd)⟩
def risD : Str → List PyData → Bool
  | _, [] => true
  | b, .str z :: r => (decide (b.cps.toList < z.cps.toList) && decide (z.length ≤ 8)) && risD z r
  | _, _ :: _ => false
def lowD : PyData → Bool
  | .str z => lowB z
  | _ => false
def pairD : PyData → Bool
  | .tuple [_, _] => true
  | _ => false
def colsD (m : Nat) : PyData → Bool
  | .tuple ds => decide (ds.length ≤ m) && (risD "" ds && ds.all lowD)
  | _ => false
def boxD : PyData → Bool
  | .tuple [l, k] => colsD 3 l && colsD 6 k
  | _ => false
def houseD : PyData → Bool
  | .tuple [.tuple bs, h] => (decide (1 ≤ bs.length) && decide (bs.length ≤ 30)) && (bs.all boxD && colsD 6 h)
  | _ => false
section
variable {K : PySem.W.Frag} {σ : L2.St} {H H' : Hp} {ta tb tc te tl : TE} {t u : TT} {x y z v : V} {r r' : R2}
theorem ev_lenStr {z : Str} (ha : Ev ta σ H (.str z)) (hz : z.length ≤ 100000) : Ev (tCB (fun xs H Q => ∃ a, xs = [.str a] ∧ a.length ≤ sizeLine ∧ Q (.int a.length) H) (tCons ta tNil)) σ H (.int (z.length : Int)) := fun H1 e Q q =>
  ha H1 e _ fun H2 e2 => ⟨z, rfl, sz_of hz, q H2 e2⟩
theorem rv_leS {a b : Str} : RV (fun x y H Q => ∃ i j, x = .str i ∧ y = .str j ∧ Q (.bl (!decide (j.cps.toList < i.cps.toList))) H) (.str a) (.str b) H (.bl (!decide (b.cps.toList < a.cps.toList))) := fun H1 _ Q q => ⟨a, b, rfl, rfl, q H1 (Ex.refl H1)⟩
end
section
variable {P : Program} {w : World} {K : PySem.W.Frag} {mg : Str → Option Value} {base : Heap}
def spPair (K : PySem.W.Frag) : Sp := fun vs H Q _ => ∃ (v : V) (d : PyData), vs = [v] ∧ Dp K H v d ∧ RetV (.bl (pairD d)) H Q
theorem pairD_not {d : PyData} (h : isTupD d = false) : pairD d = false := by
  cases d <;> first | rfl | cases h
theorem pairD_tup (ds : List PyData) : pairD (.tuple ds) = decide (ds.length = 2) := by
  match ds with
  | [] => rfl
  | [_] => rfl
  | [_, _] => rfl
  | _ :: _ :: _ :: r => exact (decide_eq_false (by simp)).symm
theorem ok_pair {f  : Addr} {fd  : FuncData} {k : Nat} (F : Fun K "is_pair" "is_pair" sPair f fd) (B : Bu mg) : FnOk P w K mg base CX0 (k + 1) f fd ["thing"] (spPair K) := by
  refine F.ok scPair (fun vs H Q E h => ?_) (fun cdv A outer s H vs Q E hr h => ?_)
  · obtain ⟨v, d, rfl, _⟩ := h
    rfl
  · obtain ⟨v, d, rfl, hd, q⟩ := h
    refine ⟨_, (pss_one (ps_ret (pe_and (pe_callB call_isi (by rfl) B.isi boot_isinstance (pa_cons (pv 0) (pa_cons (pe_bltn (v := .ty "tuple") (by rfl) B.tup boot_tuple rfl) pa_nil))) (pe_one (pe_cmpR op_eq (pe_callB call_len_seq (by rfl) B.len PySem.boot_len (pa_cons (pv 0) pa_nil)) pe_int (nomark _)))))), ?_⟩
    refine s_ret (v := .bl (pairD d)) (ev_is (ev_andV (a := isTupD d) (b := pairD d) (ev_isiD (K := K) (ev_var (v := v) rfl) ev_c hd (kit_tup hd)) fun ht => ?_) ?_) (fun H1 e1 => q H1 e1)
    · cases d <;> first | cases ht | skip
      obtain ⟨a, xs, rfl, hS, hA⟩ := dp_tup_inv hd
      refine ev_is (ev_op (ev_lenT (K := K) (ev_var (v := .ref a) rfl) hS) ev_c (rv_eq rfl)) ?_
      rw [pairD_tup, ← dpA_len hA]
      congr 1
      by_cases h : xs.length = 2
      · rw [decide_eq_true h, decide_eq_true (by rw [h]; rfl)]
      · rw [decide_eq_false h, decide_eq_false (fun z => h (by have := V.int.inj z; omega))]
    · cases ht : isTupD d with
      | true => rfl
      | false => rw [pairD_not ht]; rfl
/-! ### is_colours -/
def spCols (K : PySem.W.Frag) : Sp := fun vs H Q _ => ∃ (v : V) (d : PyData) (m : Nat), vs = [v, .int m] ∧ Dp K H v d ∧ StB d = true ∧ m ≤ 100 ∧ RetV (.bl (colsD m d)) H Q
theorem colsD_not {d : PyData} {m : Nat} (h : isTupD d = false) : colsD m d = false := by
  cases d <;> first | rfl | cases h
theorem strs_of_ris : ∀ {ds : List PyData} {b : Str}, risD b ds = true → ∃ zs : List Str, ds = zs.map PyData.str ∧ ∀ z ∈ zs, z.length ≤ 8
  | [], _, _ => ⟨[], rfl, by simp⟩
  | .str z :: r, b, h => by
    simp only [risD, Bool.and_eq_true, decide_eq_true_eq] at h
    obtain ⟨zs, e, hz⟩ := strs_of_ris h.2
    exact ⟨z :: zs, by rw [e]; rfl, fun y hy => by
      rcases List.mem_cons.mp hy with rfl | hy
      · exact h.1.2
      · exact hz y hy⟩
  | .none :: _, _, h => by simp [risD] at h
  | .bool _ :: _, _, h => by simp [risD] at h
  | .int _ :: _, _, h => by simp [risD] at h
  | .list _ :: _, _, h => by simp [risD] at h
  | .tuple _ :: _, _, h => by simp [risD] at h
  | .dict _ :: _, _, h => by simp [risD] at h
theorem lowD_strs (zs : List Str) : (zs.map PyData.str).all lowD = zs.all lowB := by
  rw [List.all_map]
  rfl
theorem sum_len8 : ∀ {zs : List Str}, (∀ z ∈ zs, z.length ≤ 8) → (zs.map (·.length)).sum ≤ 8 * zs.length
  | [], _ => by simp
  | z :: r, h => by
    have h1 := h z (List.mem_cons_self ..)
    have h2 := sum_len8 fun y hy => h y (List.mem_cons_of_mem _ hy)
    rw [List.map_cons, List.sum_cons, List.length_cons]
    omega
theorem join_len (zs : List Str) : (Txt.join ("" : Str) zs).length = (zs.map (·.length)).sum := by
  show (Txt.join ("" : Str) zs).cps.size = _
  rw [← Array.length_toList, show (Txt.join ("" : Str) zs).cps.toList = (zs.map fun z => z.cps.toList).flatten from by
    rw [TL.join_eq]
    exact (TL.tl_join ("" : Str) zs).trans (joinL_nil _), List.length_flatten, List.map_map]
  rfl
theorem ok_cols {f  : Addr} {fd  : FuncData} {k : Nat} (F : Fun K "is_colours" "is_colours" sCols f fd) (B : Bu mg) {t8 tl : Tok} (m_MOST_LETTERS : mg "MOST_LETTERS" = some (.int 8 t8)) (m_SMALL_LETTERS : mg "SMALL_LETTERS" = some (.str "abcdefghijklmnopqrstuvwxyz" tl)) : FnOk P w K mg base CX0 (k + 1) f fd ["thing", "most"] (spCols K) := by
  refine F.ok scCols (fun vs H Q E h => ?_) (fun cdv A outer s H vs Q E hr h => ?_)
  · obtain ⟨v, d, m, rfl, _⟩ := h
    rfl
  · obtain ⟨v, d, m, rfl, hd, hst, hm, q⟩ := h
    refine ⟨_, (pss_cons (ps_if (PW.pt (pw_or (pt_not (pt_val (pe_callB call_isi (by rfl) B.isi boot_isinstance (pa_cons (pv 0) (pa_cons (pe_bltn (v := .ty "tuple") (by rfl) B.tup boot_tuple rfl) pa_nil))))) (pw_or1 (pt_cmpR op_gt (pe_callB call_len_seq (by rfl) B.len PySem.boot_len (pa_cons (pv 0) pa_nil)) (pv 1) (nomark _))))) (pss_one (ps_ret pe_bl)) pss_nil)
      (pss_cons (ps_set (i := 2) scCols.nd rfl (.inl rfl) pe_str)
      (pss_cons (ps_for PassesOwn.never rfl (pi_tup (pv 0)) (pg_name (i := 3) scCols.nd rfl (.inl rfl))
      (pss_cons (ps_if (PW.pt (pw_or (pt_not (pt_val (pe_callB call_isi (by rfl) B.isi boot_isinstance (pa_cons (pv 3) (pa_cons (pe_bltn (v := .ty "str") (by rfl) B.str boot_str rfl) pa_nil))))) (pw_or (pt_cmpR op_le_str (pv 3) (pv 2) (nomark _)) (pw_or1 (pt_cmpR op_gt (pe_callB call_len_str (by rfl) B.len PySem.boot_len (pa_cons (pv 3) pa_nil)) (pe_glob (v := .int 8) (by rfl) m_MOST_LETTERS ⟨_, rfl⟩) (nomark _)))))) (pss_one (ps_ret pe_bl)) pss_nil)
      (pss_one (ps_set (i := 2) scCols.nd rfl (.inl rfl) (pv 3)))))
      (pss_one (ps_ret (pe_cmpR op_eq (pe_bm PySem.F.plainAttrs_str PySem.F.slot_str_strip PySem.F.type_str_strip mt_stripChars (pe_join pe_str (pv 0)) (pa_cons (pe_glob (v := .str "abcdefghijklmnopqrstuvwxyz") (by rfl) m_SMALL_LETTERS ⟨_, rfl⟩) pa_nil)) pe_str (nomark _))))))), ?_⟩
    cases ht : isTupD d with
    | false =>
      rw [colsD_not ht] at q
      exact q_when (b := true) (et_is (et_or (b := true) (et_not (et_B (ev_isiD (K := K) (ev_var (v := v) rfl) ev_c hd (kit_tup hd)))) fun h => absurd h (by rw [ht]; decide)) (by rw [ht]; rfl)) (fun _ H1 e1 => q H1 e1) (fun hb => absurd hb (by decide))
    | true =>
      cases d <;> first | cases ht | skip
      rename_i ds
      obtain ⟨a, xs, rfl, hS, hA⟩ := dp_tup_inv hd
      have hlen := dpA_len hA
      have hstA : StBA ds = true := by simpa [StB] using hst
      refine q_when (b := !decide (ds.length ≤ m)) (et_is (et_or (et_not (et_B (ev_isiD (K := K) (ev_var (v := .ref a) rfl) ev_c hd (kit_tup hd)))) fun _ => et_test (ev_op (ev_lenT (K := K) (ev_var (v := .ref a) rfl) hS) (ev_var (v := .int m) rfl) rv_gt)) ?_) (fun hb H1 e1 => ?_) (fun hb H1 e1 => ?_)
      · show (!true || decide ((m : Int) < (xs.length : Nat))) = _
        rw [hlen]
        by_cases h : ds.length ≤ m
        · rw [decide_eq_true h, decide_eq_false (by omega)]; rfl
        · rw [decide_eq_false h, decide_eq_true (by omega)]; rfl
      · have e : colsD m (.tuple ds) = false := by
          show (decide (ds.length ≤ m) && _) = false
          rw [Bool.not_eq_true'] at hb
          rw [hb]
          rfl
        rw [e] at q
        exact q H1 e1
      · have hle : ds.length ≤ m := by
          by_cases h : ds.length ≤ m
          · exact h
          · rw [decide_eq_false h] at hb; cases hb
        have e : colsD m (.tuple ds) = (risD "" ds && ds.all lowD) := by
          show (decide (ds.length ≤ m) && _) = _
          rw [decide_eq_true hle]
          rfl
        rw [e] at q
        refine q_asg (v := .str "") ev_c fun H2 e2 => ?_
        refine q_forT (K := K) (a := a) (xs := xs) (ev_var (v := .ref a) rfl) (ex_t (e1.trans e2) hS) (fun i σ' H' => Ex H H' ∧ ∃ b y, σ' = [some (.ref a), some (.int m), some (.str b), y] ∧ risD "" ds = risD b (ds.drop i)) (fun H3 e3 => ⟨(e1.trans e2).trans e3, "", none, rfl, rfl⟩) (fun i σ' H' _ hP => ex_t hP.1 hS) (fun i x σ' H' hx hP => ?_) (fun σ' H' hP => ?_)
        · obtain ⟨eH, b, y, rfl, hris⟩ := hP
          obtain ⟨dx, hdx, hDx⟩ := dpA_get hA hx
          have hdx' : ds.drop i = dx :: ds.drop (i + 1) := (List.getElem?_eq_some_iff.mp hdx).choose_spec ▸ List.drop_eq_getElem_cons _
          have hDx' := dp_ex eH _ _ hDx
          rw [hdx'] at hris
          show tIfS _ _ _ _ [some (.ref a), some (.int m), some (.str b), some x] H'
          cases hs : isStrD dx with
          | false =>
            have hf : risD "" ds = false := by
              rw [hris]
              cases dx <;> first | rfl | cases hs
            rw [hf] at q
            exact s_when (b := true) (et_is (et_or (b := true) (et_not (et_B (ev_isiD (K := K) (ev_var (v := x) rfl) ev_c hDx' (kit_str hDx')))) fun h => absurd h (by rw [hs]; decide)) (by rw [hs]; rfl)) (fun _ H3 e3 => q H3 (eH.trans e3)) (fun hb => absurd hb (by decide))
          | true =>
            cases dx <;> first | cases hs | skip
            rename_i z
            cases hDx
            have hzl : z.length ≤ 1000 := by
              have := stBA_mem hstA (List.mem_of_getElem? hdx)
              simpa [StB] using this
            refine s_when (b := !(decide (b.cps.toList < z.cps.toList) && decide (z.length ≤ 8))) (et_is (et_or (et_not (et_B (ev_isiD (K := K) (ev_var (v := .str z) rfl) ev_c hDx' (kit_str hDx')))) fun _ => et_or (et_test (ev_op (ev_var (v := .str z) rfl) (ev_var (v := .str b) rfl) rv_leS)) fun _ => et_test (ev_op (ev_lenStr (ev_var (v := .str z) rfl) (by omega)) ev_c rv_gt)) ?_) (fun hb H3 e3 => ?_) (fun hb H3 e3 => ?_)
            · show (!true || (!decide (b.cps.toList < z.cps.toList) || decide ((8 : Int) < z.length))) = _
              have a2 : decide ((8 : Int) < z.length) = !decide (z.length ≤ 8) := by
                by_cases h : z.length ≤ 8
                · rw [decide_eq_true h, decide_eq_false (by omega)]; rfl
                · rw [decide_eq_false h, decide_eq_true (by omega)]; rfl
              rw [a2]
              cases decide (b.cps.toList < z.cps.toList) <;> cases decide (z.length ≤ 8) <;> rfl
            · have hf : risD "" ds = false := by
                rw [hris]
                show ((decide (b.cps.toList < z.cps.toList) && decide (z.length ≤ 8)) && _) = false
                rw [Bool.not_eq_true'] at hb
                rw [hb]
                rfl
              rw [hf] at q
              exact q H3 (eH.trans e3)
            · refine s_asg (v := .str z) (ev_var rfl) fun H4 e4 => ⟨(eH.trans e3).trans e4, z, _, rfl, ?_⟩
              rw [hris]
              show ((decide (b.cps.toList < z.cps.toList) && decide (z.length ≤ 8)) && _) = _
              rw [Bool.not_eq_false'] at hb
              rw [hb]
              rfl
        · obtain ⟨eH, b, y, rfl, hris⟩ := hP
          rw [List.drop_eq_nil_of_le (by omega)] at hris
          have hris : risD "" ds = true := hris
          obtain ⟨zs, rfl, hz8⟩ := strs_of_ris hris
          rw [hris, lowD_strs, Bool.true_and, ← join_low, ← strip_low] at q
          have hxs := dpA_strs_inv hA
          subst hxs
          have hsum := sum_len8 hz8
          rw [List.length_map] at hlen hle
          refine ⟨⟨_, rfl⟩, .ref a, rfl, "", a, zs, rfl, rfl, .inr (ex_t eH hS), ?_, rfl, _, _, rfl, rfl, sz_of ?_, rfl, ?_⟩
          · show _ + zs.length * 0 ≤ _
            omega
          · rw [join_len]
            omega
          · exact q H' eH
/-! ### is_box -/
def spBox (K : PySem.W.Frag) : Sp := fun vs H Q _ => ∃ (v : V) (d : PyData), vs = [v] ∧ Dp K H v d ∧ StB d = true ∧ RetV (.bl (boxD d)) H Q
theorem boxD_not {d : PyData} (h : pairD d = false) : boxD d = false := by
  unfold boxD
  split
  · cases h
  · rfl
theorem houseD_not {d : PyData} (h : pairD d = false) : houseD d = false := by
  unfold houseD
  split
  · cases h
  · rfl
theorem pairD_inv {d : PyData} (h : pairD d = true) : ∃ a b, d = .tuple [a, b] := by
  unfold pairD at h
  split at h
  · exact ⟨_, _, rfl⟩
  · cases h
theorem ok_box {f fPair fCols : Addr} {fd fdPair fdCols : FuncData} {k : Nat} (F : Fun K "is_box" "is_box" sBox f fd) (DPair : Df K mg "is_pair" sPair ["thing"] fPair fdPair) (DCols : Df K mg "is_colours" sCols ["thing", "most"] fCols fdCols) (GPair : FnOk P w K mg base CX0 (k + 1) fPair fdPair ["thing"] (spPair K)) (GCols : FnOk P w K mg base CX0 (k + 1) fCols fdCols ["thing", "most"] (spCols K)) {t3 t6 : Tok} (m_MOST_LOCKS : mg "MOST_LOCKS" = some (.int 3 t3)) (m_MOST_KEYS : mg "MOST_KEYS" = some (.int 6 t6)) : FnOk P w K mg base CX0 (k + 2) f fd ["thing"] (spBox K) := by
  refine F.ok scBox (fun vs H Q E h => ?_) (fun cdv A outer s H vs Q E hr h => ?_)
  · obtain ⟨v, d, rfl, _⟩ := h
    rfl
  · obtain ⟨v, d, rfl, hd, hst, q⟩ := h
    refine ⟨_, (pss_one (ps_ret (pe_and (pcall DPair GPair (hr.mono (by omega)) (pa_cons (pv 0) pa_nil)) (pe_and (pcall DCols GCols (hr.mono (by omega)) (pa_cons (pe_ix ix_tup (pv 0) pe_int (fun _ _ => rfl)) (pa_cons (pe_glob (v := .int 3) (by rfl) m_MOST_LOCKS ⟨_, rfl⟩) pa_nil))) (pe_one (pcall DCols GCols (hr.mono (by omega)) (pa_cons (pe_ix ix_tup (pv 0) pe_int (fun _ _ => rfl)) (pa_cons (pe_glob (v := .int 6) (by rfl) m_MOST_KEYS ⟨_, rfl⟩) pa_nil)))))))), ?_⟩
    have t1 : Ev (tCall (spPair K) [] E0 (tCons (tVar 0) tNil)) [some v] H (.bl (pairD d)) := ev_call (ea_cons (ev_var (v := v) rfl) ea_nil) (SpV.of fun H1 e1 Q q E => ⟨v, d, rfl, dp_ex e1 _ _ hd, q⟩)
    cases hp : pairD d with
    | false =>
      rw [boxD_not hp] at q
      rw [hp] at t1
      exact s_ret (v := .bl false) (ev_andV (b := false) t1 fun h => by cases h) (fun H1 e1 => q H1 e1)
    | true =>
      rw [hp] at t1
      obtain ⟨l, k, rfl⟩ := pairD_inv hp
      obtain ⟨a, xs, rfl, hS, hA⟩ := dp_tup_inv hd
      cases hA with
      | cons h1 hA =>
        cases hA with
        | cons h2 hA =>
          cases hA
          simp only [StB, StBA, Bool.and_eq_true] at hst
          refine s_ret (v := .bl (boxD (.tuple [l, k]))) (ev_andV (a := true) (b := colsD 3 l && colsD 6 k) t1 fun _ => ev_andV (ev_call (ea_cons (ev_op (ev_var (v := .ref a) rfl) ev_c (rv_ixT hS at0)) (ea_cons ev_c ea_nil)) (SpV.of fun H1 e1 Q q E => ⟨_, l, 3, rfl, dp_ex e1 _ _ h1, hst.1, by decide, q⟩)) fun _ =>
            ev_call (ea_cons (ev_op (ev_var (v := .ref a) rfl) ev_c (rv_ixT hS at1)) (ea_cons ev_c ea_nil)) (SpV.of fun H1 e1 Q q E => ⟨_, k, 6, rfl, dp_ex e1 _ _ h2, hst.2.1, by decide, q⟩)) (fun H1 e1 => q H1 e1)
/-! ### is_house -/
def spIsH (K : PySem.W.Frag) : Sp := fun vs H Q _ => ∃ (v : V) (d : PyData), vs = [v] ∧ Dp K H v d ∧ StB d = true ∧ RetV (.bl (houseD d)) H Q
theorem ok_isH {f fPair fCols fBox : Addr} {fd fdPair fdCols fdBox : FuncData} {k : Nat} (F : Fun K "is_house" "is_house" sIsH f fd) (DPair : Df K mg "is_pair" sPair ["thing"] fPair fdPair) (DCols : Df K mg "is_colours" sCols ["thing", "most"] fCols fdCols) (DBox : Df K mg "is_box" sBox ["thing"] fBox fdBox) (GPair : FnOk P w K mg base CX0 (k + 1) fPair fdPair ["thing"] (spPair K)) (GCols : FnOk P w K mg base CX0 (k + 1) fCols fdCols ["thing", "most"] (spCols K)) (GBox : FnOk P w K mg base CX0 (k + 2) fBox fdBox ["thing"] (spBox K)) (B : Bu mg) {t30 t6 : Tok} (m_MOST_BOXES : mg "MOST_BOXES" = some (.int 30 t30)) (m_MOST_KEYS : mg "MOST_KEYS" = some (.int 6 t6)) : FnOk P w K mg base CX0 (k + 3) f fd ["thing"] (spIsH K) := by
  refine F.ok scIsH (fun vs H Q E h => ?_) (fun cdv A outer s H vs Q E hr h => ?_)
  · obtain ⟨v, d, rfl, _⟩ := h
    rfl
  · obtain ⟨v, d, rfl, hd, hst, q⟩ := h
    refine ⟨_, (pss_cons (ps_if (pt_not (pt_val (pcall DPair GPair (hr.mono (by omega)) (pa_cons (pv 0) pa_nil)))) (pss_one (ps_ret pe_bl)) pss_nil)
      (pss_cons (ps_asg (pv 0) (pg_tup rfl (pgs_cons (pg_name (i := 1) scIsH.nd rfl (.inl rfl)) (pgs_cons (pg_name (i := 2) scIsH.nd rfl (.inl rfl)) pgs_nil))))
      (pss_cons (ps_if (PW.pt (pw_or (pt_not (pt_val (pe_callB call_isi (by rfl) B.isi boot_isinstance (pa_cons (pv 1) (pa_cons (pe_bltn (v := .ty "tuple") (by rfl) B.tup boot_tuple rfl) pa_nil))))) (pw_or1 (pt_not (pt_chain op_le op_le pe_int (pe_callB call_len_seq (by rfl) B.len PySem.boot_len (pa_cons (pv 1) pa_nil)) (pe_glob (v := .int 30) (by rfl) m_MOST_BOXES ⟨_, rfl⟩)))))) (pss_one (ps_ret pe_bl)) pss_nil)
      (pss_cons (ps_for PassesOwn.never rfl (pi_tup (pv 1)) (pg_name (i := 3) scIsH.nd rfl (.inl rfl))
      (pss_one (ps_if (pt_not (pt_val (pcall DBox GBox (hr.mono (by omega)) (pa_cons (pv 3) pa_nil)))) (pss_one (ps_ret pe_bl)) pss_nil)))
      (pss_one (ps_ret (pcall DCols GCols (hr.mono (by omega)) (pa_cons (pv 2) (pa_cons (pe_glob (v := .int 6) (by rfl) m_MOST_KEYS ⟨_, rfl⟩) pa_nil))))))))), ?_⟩
    have t1 : ∀ {y1 y2 y3}, Ev (tCall (spPair K) [] E0 (tCons (tVar 0) tNil)) [some v, y1, y2, y3] H (.bl (pairD d)) := ev_call (ea_cons (ev_var (v := v) rfl) ea_nil) (SpV.of fun H1 e1 Q q E => ⟨v, d, rfl, dp_ex e1 _ _ hd, q⟩)
    cases hp : pairD d with
    | false =>
      rw [houseD_not hp] at q
      rw [hp] at t1
      exact q_when (b := true) (et_not (et_B t1)) (fun _ H1 e1 => q H1 e1) (fun hb => absurd hb (by decide))
    | true =>
      rw [hp] at t1
      refine q_when (b := false) (et_not (et_B t1)) (fun hb => absurd hb (by decide)) (fun _ H1 e1 => ?_)
      obtain ⟨db, dh, rfl⟩ := pairD_inv hp
      obtain ⟨a, xs, rfl, hS, hA⟩ := dp_tup_inv hd
      cases hA with
      | cons h1 hA =>
        cases hA with
        | cons h2 hA =>
          cases hA
          rename_i vb vh
          simp only [StB, StBA, Bool.and_eq_true] at hst
          refine ⟨.ref a, rfl, a, _, rfl, ex_t e1 hS, rfl, vb, [vh], rfl, vh, [], rfl, rfl, ?_⟩
          show tSeq _ _ _ [some (.ref a), some vb, some vh, none] H1
          have h1' := dp_ex e1 _ _ h1
          cases ht : isTupD db with
          | false =>
            have e : houseD (.tuple [db, dh]) = false := by cases db <;> first | rfl | cases ht
            rw [e] at q
            exact q_when (b := true) (et_is (et_or (b := true) (et_not (et_B (ev_isiD (K := K) (ev_var (v := vb) rfl) ev_c h1' (kit_tup h1')))) fun h => absurd h (by rw [ht]; decide)) (by rw [ht]; rfl)) (fun _ H2 e2 => q H2 (e1.trans e2)) (fun hb => absurd hb (by decide))
          | true =>
            cases db <;> first | cases ht | skip
            rename_i bs
            obtain ⟨ab, ys, rfl, hSb, hAb⟩ := dp_tup_inv h1
            have hlen := dpA_len hAb
            have hstB : StBA bs = true := by simpa [StB] using hst.1
            refine q_when (b := !(decide (1 ≤ bs.length) && decide (bs.length ≤ 30))) (et_is (et_or (et_not (et_B (ev_isiD (K := K) (ev_var (v := .ref ab) rfl) ev_c h1' (kit_tup h1')))) fun _ => et_not (et_test (ev_chain ev_c (ev_lenT (K := K) (ev_var (v := .ref ab) rfl) (ex_t e1 hSb)) ev_c rv_le rv_le))) ?_) (fun hb H2 e2 => ?_) (fun hb H2 e2 => ?_)
            · show (!true || !(decide ((1 : Int) ≤ (ys.length : Nat)) && decide (((ys.length : Nat) : Int) ≤ 30))) = _
              rw [hlen]
              have a1 : decide ((1 : Int) ≤ (bs.length : Nat)) = decide (1 ≤ bs.length) := decide_eq_decide.mpr (by omega)
              have a2 : decide (((bs.length : Nat) : Int) ≤ 30) = decide (bs.length ≤ 30) := decide_eq_decide.mpr (by omega)
              rw [a1, a2]
              rfl
            · have e : houseD (.tuple [.tuple bs, dh]) = false := by
                show ((decide (1 ≤ bs.length) && decide (bs.length ≤ 30)) && _) = false
                rw [Bool.not_eq_true'] at hb
                rw [hb]
                rfl
              rw [e] at q
              exact q H2 (e1.trans e2)
            · have e : houseD (.tuple [.tuple bs, dh]) = (bs.all boxD && colsD 6 dh) := by
                show ((decide (1 ≤ bs.length) && decide (bs.length ≤ 30)) && _) = _
                rw [Bool.not_eq_false'] at hb
                rw [hb]
                rfl
              rw [e] at q
              have eX := e1.trans e2
              refine q_forT (K := K) (a := ab) (xs := ys) (ev_var (v := .ref ab) rfl) (ex_t eX hSb) (fun i σ' H' => Ex H H' ∧ (∃ y, σ' = [some (.ref a), some (.ref ab), some vh, y]) ∧ (bs.take i).all boxD = true) (fun H3 e3 => ⟨eX.trans e3, ⟨none, rfl⟩, rfl⟩) (fun i σ' H' _ hP => ex_t hP.1 hSb) (fun i x σ' H' hx hP => ?_) (fun σ' H' hP => ?_)
              · obtain ⟨eH, ⟨y, rfl⟩, hall⟩ := hP
                obtain ⟨dx, hdx, hDx⟩ := dpA_get hAb hx
                have hDx' := dp_ex eH _ _ hDx
                have hmem := List.mem_of_getElem? hdx
                show tIfS _ _ _ _ [some (.ref a), some (.ref ab), some vh, some x] H'
                refine s_when (b := !boxD dx) (et_not (et_B (ev_call (ea_cons (ev_var (v := x) rfl) ea_nil) (SpV.of fun H3 e3 Q q E => ⟨x, dx, rfl, dp_ex e3 _ _ hDx', stBA_mem hstB hmem, q⟩)))) (fun hb H3 e3 => ?_) (fun hb H3 e3 => ?_)
                · have hf : bs.all boxD = false := by
                    rw [Bool.not_eq_true'] at hb
                    exact List.all_eq_false.mpr ⟨dx, hmem, by rw [hb]; decide⟩
                  rw [hf] at q
                  exact q H3 (eH.trans e3)
                · rw [Bool.not_eq_false'] at hb
                  refine ⟨eH.trans e3, ⟨_, rfl⟩, ?_⟩
                  rw [List.take_add_one, List.all_append, hall, hdx]
                  show (true && (boxD dx && true)) = true
                  rw [hb]
                  rfl
              · obtain ⟨eH, ⟨y, rfl⟩, hall⟩ := hP
                rw [List.take_of_length_le (by omega)] at hall
                rw [hall, Bool.true_and] at q
                exact s_ret (v := .bl (colsD 6 dh)) (ev_call (ea_cons (ev_var (v := vh) rfl) (ea_cons ev_c ea_nil)) (SpV.of fun H3 e3 Q q E => ⟨vh, dh, 6, rfl, dp_ex (eH.trans e3) _ _ h2, hst.2.1, by decide, q⟩)) (fun H3 e3 => q H3 (eH.trans e3))
end
end Kw
set_option Elab.async false
set_option linter.all false
set_option maxRecDepth 100000
set_option maxHeartbeats 4000000
namespace Kw
open PySem PySem.Spec PyProof.Rows L2 Evl
abbrev Box := List Str × List Str
abbrev House := List Box × List Str
def BoxAt (K : PySem.W.Frag) (H : Hp) (v : V) (b : Box) : Prop := ∃ a l k : Addr, v = .ref a ∧ SqT K H a [.ref l, .ref k] ∧ SqT K H l (b.1.map V.str) ∧ SqT K H k (b.2.map V.str)
def BoxesT (K : PySem.W.Frag) (H : Hp) (a : Addr) (bs : List Box) : Prop := ∃ vs, SqT K H a vs ∧ Paired (BoxAt K H) vs bs
def HouseAt (K : PySem.W.Frag) (H : Hp) (v : V) (h : House) : Prop := ∃ a b k : Addr, v = .ref a ∧ SqT K H a [.ref b, .ref k] ∧ BoxesT K H b h.1 ∧ SqT K H k (h.2.map V.str)
section
variable {K : PySem.W.Frag} {H H' : Hp}
theorem BoxAt.keep {v : V} {b : Box} (e : KeepT H H') (h : BoxAt K H v b) : BoxAt K H' v b := by
  obtain ⟨a, l, k, h1, h2, h3, h4⟩ := h
  exact ⟨a, l, k, h1, keep_t e h2, keep_t e h3, keep_t e h4⟩
theorem BoxesT.keep {a : Addr} {bs : List Box} (e : KeepT H H') (h : BoxesT K H a bs) : BoxesT K H' a bs := by
  obtain ⟨vs, h1, h2⟩ := h
  exact ⟨vs, keep_t e h1, paired_imp h2 fun _ _ h => h.keep e⟩
theorem HouseAt.keep {v : V} {h : House} (e : KeepT H H') (x : HouseAt K H v h) : HouseAt K H' v h := by
  obtain ⟨a, b, k, h1, h2, h3, h4⟩ := x
  exact ⟨a, b, k, h1, keep_t e h2, h3.keep e, keep_t e h4⟩
end
def Rising (cs : List Str) : Prop := ∀ i x y, cs[i]? = some x → cs[i + 1]? = some y → x.cps.toList < y.cps.toList
def colB (z : Str) : Bool := (decide (1 ≤ z.length) && decide (z.length ≤ 8)) && z.cps.toList.all fun c => decide (97 ≤ c) && decide (c ≤ 122)
def OkCols (cs : List Str) (m : Nat) : Prop := cs.length ≤ m ∧ (∀ c ∈ cs, colB c = true) ∧ Rising cs
def OkBox (b : Box) : Prop := OkCols b.1 3 ∧ OkCols b.2 6
def OkHouse (h : House) : Prop := 1 ≤ h.1.length ∧ h.1.length ≤ 30 ∧ (∀ b ∈ h.1, OkBox b) ∧ OkCols h.2 6
theorem colB_len {z : Str} (h : colB z = true) : z.length ≤ 8 := by
  unfold colB at h
  simp only [Bool.and_eq_true, decide_eq_true_eq] at h
  exact h.1.2
def fitsB (ls hs : List Str) : Bool := ls.all fun c => decide (c ∈ hs)
def bx (bs : List Box) (i : Nat) : Box := bs.getD i ([], [])
def keysIn (bs : List Box) (is : List Nat) : List Str := is.flatMap fun i => (bx bs i).2
def readyOf (bs : List Box) (held : List Str) (closed : List Nat) : List Nat := closed.filter fun i => fitsB (bx bs i).1 held
def less (closed ready : List Nat) : List Nat := closed.filter fun i => !decide (i ∈ ready)
def roundsF (bs : List Box) : Nat → List Str → List Nat → List (List Nat)
  | 0, _, _ => []
  | n + 1, held, closed => let r := readyOf bs held closed; if r = [] then [] else r :: roundsF bs n (held ++ keysIn bs r) (less closed r)
def roundsOf (bs : List Box) (held : List Str) (closed : List Nat) : List (List Nat) := roundsF bs (closed.length + 1) held closed
def shutOf (bs : List Box) (hand : List Str) (broken : List Nat) : List Nat :=
  less (less (List.range bs.length) broken) (roundsOf bs (hand ++ keysIn bs broken) (less (List.range bs.length) broken)).flatten
theorem less_len (c r : List Nat) : (less c r).length ≤ c.length := List.length_filter_le _ _
theorem less_lt {bs : List Box} {held : List Str} {closed : List Nat} (h : readyOf bs held closed ≠ []) : (less closed (readyOf bs held closed)).length < closed.length := by
  obtain ⟨i, hi⟩ := List.exists_mem_of_ne_nil _ h
  have hc : i ∈ closed := (List.mem_filter.mp hi).1
  unfold less
  rcases Nat.lt_or_ge (closed.filter fun i => !decide (i ∈ readyOf bs held closed)).length closed.length with h1 | h1
  · exact h1
  · have e := (List.filter_sublist (p := fun i => !decide (i ∈ readyOf bs held closed)) (l := closed)).eq_of_length_le h1
    rw [← e] at hc
    have := (List.mem_filter.mp hc).2
    rw [decide_eq_true hi] at this
    cases this
theorem roundsF_fuel (bs : List Box) : ∀ (n m : Nat) (held : List Str) (closed : List Nat), closed.length < n → closed.length < m → roundsF bs n held closed = roundsF bs m held closed
  | 0, _, _, _, h, _ => by omega
  | _, 0, _, _, _, h => by omega
  | n + 1, m + 1, held, closed, h1, h2 => by
    show (if readyOf bs held closed = [] then [] else _) = (if readyOf bs held closed = [] then [] else _)
    by_cases h : readyOf bs held closed = []
    · rw [if_pos h, if_pos h]
    · rw [if_neg h, if_neg h]
      have := less_lt h
      rw [roundsF_fuel bs n m _ _ (by omega) (by omega)]
theorem roundsOf_nil {bs : List Box} {held : List Str} {closed : List Nat} (h : readyOf bs held closed = []) : roundsOf bs held closed = [] := by
  unfold roundsOf
  show (if readyOf bs held closed = [] then [] else _) = _
  rw [if_pos h]
theorem roundsOf_cons {bs : List Box} {held : List Str} {closed : List Nat} (h : readyOf bs held closed ≠ []) :
    roundsOf bs held closed = readyOf bs held closed :: roundsOf bs (held ++ keysIn bs (readyOf bs held closed)) (less closed (readyOf bs held closed)) := by
  unfold roundsOf
  show (if readyOf bs held closed = [] then [] else _) = _
  rw [if_neg h]
  have := less_lt h
  rw [roundsF_fuel bs closed.length _ _ _ this (Nat.lt_succ_self _)]
/-- boxes, a list or a tuple of them -/
def BoxesS (K : PySem.W.Frag) (H : Hp) (a : Addr) (bs : List Box) : Prop := ∃ vs, (SqL K H a vs ∨ SqT K H a vs) ∧ Paired (BoxAt K H) vs bs
section
variable {K : PySem.W.Frag} {σ : L2.St} {H H' : Hp} {ta tb te tl : TE} {x y z v : V}
theorem BoxesS.ex {a : Addr} {bs : List Box} (e : Ex H H') (h : BoxesS K H a bs) : BoxesS K H' a bs := by
  obtain ⟨vs, h1, h2⟩ := h
  exact ⟨vs, h1.elim (fun h => .inl (ex_l e h)) (fun h => .inr (ex_t e h)), paired_imp h2 fun _ _ h => h.keep (KeepT.ex e)⟩
theorem BoxesS.of {a : Addr} {bs : List Box} (h : BoxesT K H a bs) : BoxesS K H a bs := by
  obtain ⟨vs, h1, h2⟩ := h
  exact ⟨vs, .inr h1, h2⟩
theorem bx_get {bs : List Box} {i : Nat} (h : i < bs.length) : bs[i]? = some (bx bs i) := by
  unfold bx
  rw [List.getD_eq_getElem?_getD, List.getElem?_eq_getElem h]
  rfl
/-- boxes[i][0], boxes[i][1] -/
theorem box_at {a : Addr} {bs : List Box} {i : Nat} (h : BoxesS K H a bs) (hi : i < bs.length) (ha : Ev ta σ H (.ref a)) (hb : Ev tb σ H (vN i)) :
    ∃ l k : Addr, SqT K H l ((bx bs i).1.map V.str) ∧ SqT K H k ((bx bs i).2.map V.str) ∧ Ev (tOp (rIxT K) (tOp (rIx K) ta tb) (tC (.int 0))) σ H (.ref l) ∧ Ev (tOp (rIxT K) (tOp (rIx K) ta tb) (tC (.int 1))) σ H (.ref k) := by
  obtain ⟨vs, h1, h2⟩ := h
  obtain ⟨v, hv, p, l, k, rfl, hp, hl, hk⟩ := paired_get2 h2 (bx_get hi)
  have e := ev_op ha hb (rIx_seq (K := K) h1 (atI_nat hv))
  exact ⟨l, k, hl, hk, ev_op e ev_c (rv_ixT hp at0), ev_op e ev_c (rv_ixT hp at1)⟩
theorem ev_lenB {a : Addr} {bs : List Box} (ha : Ev ta σ H (.ref a)) (h : BoxesS K H a bs) : Ev (tCB (rLenS K) (tCons ta tNil)) σ H (.int (bs.length : Int)) := by
  obtain ⟨vs, h1, h2⟩ := h
  rw [← paired_len h2]
  exact h1.elim (fun h => ev_len ha h) (fun h => ev_lenT ha h)
end
theorem keysIn_len {bs : List Box} (hb : ∀ b ∈ bs, b.2.length ≤ 6) : ∀ is : List Nat, (keysIn bs is).length ≤ 6 * is.length
  | [] => by simp [keysIn]
  | i :: r => by
    have ih := keysIn_len hb r
    have : (bx bs i).2.length ≤ 6 := by
      unfold bx
      rw [List.getD_eq_getElem?_getD]
      cases e : bs[i]? with
      | none => simp
      | some b => exact hb b (List.mem_of_getElem? e)
    unfold keysIn at ih ⊢
    rw [List.flatMap_cons, List.length_append, List.length_cons]
    omega
theorem ready_less (bs : List Box) (held : List Str) (closed : List Nat) : (readyOf bs held closed).length + (less closed (readyOf bs held closed)).length = closed.length := by
  have e : less closed (readyOf bs held closed) = closed.filter (fun i => !fitsB (bx bs i).1 held) := by
    unfold less
    apply List.filter_congr
    intro i hi
    congr 1
    cases h : fitsB (bx bs i).1 held with
    | true => exact decide_eq_true (List.mem_filter.mpr ⟨hi, h⟩)
    | false =>
      refine decide_eq_false fun z => ?_
      have := (List.mem_filter.mp z).2
      rw [h] at this
      cases this
  rw [e]
  unfold readyOf
  exact filter_both closed fun i => fitsB (bx bs i).1 held
def Few (bs : List Box) : Prop := bs.length ≤ 30 ∧ ∀ b ∈ bs, b.1.length ≤ 3 ∧ b.2.length ≤ 6
theorem Few.bx {bs : List Box} (h : Few bs) (i : Nat) : (bx bs i).1.length ≤ 3 ∧ (bx bs i).2.length ≤ 6 := by
  unfold Kw.bx
  rw [List.getD_eq_getElem?_getD]
  cases e : bs[i]? with
  | none => simp
  | some b => exact h.2 b (List.mem_of_getElem? e)
theorem flatten_rounds (bs : List Box) : ∀ (n : Nat) (held : List Str) (closed : List Nat), (roundsF bs n held closed).flatten.length ≤ closed.length
  | 0, _, _ => Nat.zero_le _
  | n + 1, held, closed => by
    show (if readyOf bs held closed = [] then [] else _).flatten.length ≤ _
    by_cases h : readyOf bs held closed = []
    · rw [if_pos h]
      exact Nat.zero_le _
    · rw [if_neg h, List.flatten_cons, List.length_append]
      have := flatten_rounds bs n (held ++ keysIn bs (readyOf bs held closed)) (less closed (readyOf bs held closed))
      have := ready_less bs held closed
      omega
theorem OkHouse.few {h : House} (o : OkHouse h) : Few h.1 := ⟨o.2.1, fun b hb => ⟨(o.2.2.1 b hb).1.1, (o.2.2.1 b hb).2.1⟩⟩
def withoutL (cs : List Str) (c : Str) : List Str := cs.filter fun x => !decide (x = c)
def fewerBs (bs : List Box) (c : Str) : List Box := bs.map fun b => (b.1, withoutL b.2 c)
def lostOf (h : House) (c : Str) : List Nat := less (shutOf (fewerBs h.1 c) (withoutL h.2 c) []) (shutOf h.1 h.2 [])
theorem withoutL_len (cs : List Str) (c : Str) : (withoutL cs c).length ≤ cs.length := List.length_filter_le _ _
theorem Few.fewer {bs : List Box} (h : Few bs) (c : Str) : Few (fewerBs bs c) := by
  refine ⟨by unfold fewerBs; rw [List.length_map]; exact h.1, fun b hb => ?_⟩
  obtain ⟨b0, h0, rfl⟩ := List.mem_map.mp hb
  have := h.2 b0 h0
  have := withoutL_len b0.2 c
  exact ⟨by show b0.1.length ≤ 3; omega, by show (withoutL b0.2 c).length ≤ 6; omega⟩
theorem shutOf_len (bs : List Box) (hand : List Str) (br : List Nat) : (shutOf bs hand br).length ≤ bs.length := by
  unfold shutOf
  have h1 := less_len (less (List.range bs.length) br) (roundsOf bs (hand ++ keysIn bs br) (less (List.range bs.length) br)).flatten
  have h2 := less_len (List.range bs.length) br
  rw [List.length_range] at h2
  omega
/-- [x for x in t if x not in u] -/
theorem el_lessT {K : PySem.W.Frag} {σ : L2.St} {H : Hp} {tl tu : TE} {a b : Addr} {j : Nat} {vs : List Nat} {xs ys : List Nat} (ha : Ev tl σ H (.ref a)) (hx : SqT K H a (xs.map vN)) (hl : xs.length ≤ 1000) (hy : SqT K H b (ys.map vN))
    (hw : ∀ x, wipe ((wipe σ vs).set j (some x)) vs = wipe σ vs ∧ ((wipe σ vs).set j (some x))[j]? = some (some x) ∧ ∀ H1, Ev tu ((wipe σ vs).set j (some x)) H1 (.ref b)) :
    EvL (tLc (iTup K tl) (gName j) (tTest (tOp (rIn K true) (tVar j) tu)) (tVar j) vs) σ H ((less xs ys).map vN) := by
  refine el_lc (ew_tup ha hx) (by rw [List.length_map]; omega) (fun i => !decide (xs.getD i 0 ∈ ys)) (fun i => vN (xs.getD i 0)) ?_ (fun i x H1 H2 Q e hi hy' k => ?_)
  · rw [List.length_map]
    exact filter_range_map xs 0 (fun i => !decide (i ∈ ys)) vN
  · obtain ⟨rfl, hx'⟩ := hy'
    have hi' : i < xs.length := by rw [List.length_map] at hi; exact hi
    have ei : xs.getD i 0 = xs[i] := by rw [List.getD_eq_getElem?_getD, List.getElem?_eq_getElem hi']; rfl
    have ex : x = vN xs[i] := by
      rw [List.getElem?_map, List.getElem?_eq_getElem hi'] at hx'
      exact (Option.some.inj hx').symm
    subst ex
    obtain ⟨w1, w2, w3⟩ := hw (vN xs[i])
    refine k _ _ (Ex.refl _) w1 ?_ fun _ => ?_
    · rw [ei, ← inV_nat]
      exact et_test (ev_op (ev_var w2) (w3 _) (rv_niT (ex_t e hy) rfl (flat_nats ys)))
    · rw [ei]
      exact ev_var w2
end Kw
set_option Elab.async false
set_option linter.all false
set_option maxRecDepth 100000
set_option maxHeartbeats 4000000
namespace Kw
open PySem PySem.Spec PyProof.Rows L2 Evl
/-! ### houses as data -/
def encC (cs : List Str) : PyData := .tuple (cs.map PyData.str)
def encB (b : Box) : PyData := .tuple [encC b.1, encC b.2]
def encBs (bs : List Box) : PyData := .tuple (bs.map encB)
def encH (h : House) : PyData := .tuple [encBs h.1, encC h.2]
section
variable {K : PySem.W.Frag} {H H' : Hp}
theorem dp_cols {a : Addr} {cs : List Str} (h : SqT K H a (cs.map V.str)) : Dp K H (.ref a) (encC cs) := .tup h (dpA_strs cs)
theorem dp_box {v : V} {b : Box} (h : BoxAt K H v b) : Dp K H v (encB b) := by
  obtain ⟨a, l, k, rfl, h1, h2, h3⟩ := h
  exact .tup h1 (.cons (dp_cols h2) (.cons (dp_cols h3) .nil))
theorem dp_boxesA : ∀ {vs : List V} {bs : List Box}, Paired (BoxAt K H) vs bs → DpAll K H vs (bs.map encB)
  | _, _, .nil => .nil
  | _, _, .cons a r => .cons (dp_box a) (dp_boxesA r)
theorem dp_house {v : V} {h : House} (x : HouseAt K H v h) : Dp K H v (encH h) := by
  obtain ⟨a, b, k, rfl, h1, ⟨vs, h2, h3⟩, h4⟩ := x
  exact .tup h1 (.cons (.tup h2 (dp_boxesA h3)) (.cons (dp_cols h4) .nil))
theorem cols_dp {v : V} {cs : List Str} (h : Dp K H v (encC cs)) : ∃ a, v = .ref a ∧ SqT K H a (cs.map V.str) := by
  obtain ⟨a, xs, rfl, h1, h2⟩ := dp_tup_inv h
  rw [dpA_strs_inv h2] at h1
  exact ⟨a, rfl, h1⟩
theorem box_dp {v : V} {b : Box} (h : Dp K H v (encB b)) : BoxAt K H v b := by
  obtain ⟨a, xs, rfl, h1, h2⟩ := dp_tup_inv h
  cases h2 with
  | cons x h2 =>
    cases h2 with
    | cons y h2 =>
      cases h2
      obtain ⟨l, rfl, hl⟩ := cols_dp x
      obtain ⟨k, rfl, hk⟩ := cols_dp y
      exact ⟨a, l, k, rfl, h1, hl, hk⟩
theorem boxes_dpA : ∀ {vs : List V} {bs : List Box}, DpAll K H vs (bs.map encB) → Paired (BoxAt K H) vs bs
  | _, [], h => by cases h; exact .nil
  | _, b :: r, h => by
    cases h with
    | cons a t => exact .cons (box_dp a) (boxes_dpA t)
theorem house_dp {v : V} {h : House} (x : Dp K H v (encH h)) : HouseAt K H v h := by
  obtain ⟨a, xs, rfl, h1, h2⟩ := dp_tup_inv x
  cases h2 with
  | cons x h2 =>
    cases h2 with
    | cons y h2 =>
      cases h2
      obtain ⟨b, bs, rfl, hb, hbs⟩ := dp_tup_inv x
      obtain ⟨k, rfl, hk⟩ := cols_dp y
      exact ⟨a, b, k, rfl, h1, ⟨bs, hb, boxes_dpA hbs⟩, hk⟩
end
theorem colB_low {z : Str} (h : colB z = true) : lowB z = true ∧ z.length ≤ 8 ∧ 1 ≤ z.length := by
  unfold colB at h
  rw [Bool.and_eq_true, Bool.and_eq_true, decide_eq_true_eq, decide_eq_true_eq] at h
  exact ⟨h.2, h.1.2, h.1.1⟩
theorem ris_strs : ∀ {cs : List Str} {b : Str}, (∀ c ∈ cs, colB c = true) → Rising (b :: cs) → risD b (cs.map PyData.str) = true
  | [], _, _, _ => rfl
  | c :: r, b, hc, hr => by
    show ((decide (b.cps.toList < c.cps.toList) && decide (c.length ≤ 8)) && risD c (r.map PyData.str)) = true
    rw [decide_eq_true (hr 0 b c rfl rfl), decide_eq_true (colB_low (hc c (List.mem_cons_self ..))).2.1, ris_strs (fun d hd => hc d (List.mem_cons_of_mem _ hd)) (fun i x y hx hy => hr (i + 1) x y hx hy)]
    rfl
theorem nil_lt {z : Str} (h : 1 ≤ z.length) : ("" : Str).cps.toList < z.cps.toList := by
  have hz : z.length = z.cps.toList.length := rfl
  cases e : z.cps.toList with
  | nil => rw [hz, e] at h; cases h
  | cons a r => exact List.nil_lt_cons a r
theorem cols_ok {cs : List Str} {m : Nat} (h : OkCols cs m) : colsD m (encC cs) = true := by
  obtain ⟨h1, h2, h3⟩ := h
  show (decide ((cs.map PyData.str).length ≤ m) && (risD "" (cs.map PyData.str) && (cs.map PyData.str).all lowD)) = true
  rw [decide_eq_true (by rw [List.length_map]; exact h1), lowD_strs, List.all_eq_true.mpr fun c hc => (colB_low (h2 c hc)).1, ris_strs h2 ?_]
  · rfl
  · intro i x y hx hy
    cases i with
    | zero =>
      cases cs with
      | nil => cases hy
      | cons c r =>
        cases hx
        cases hy
        exact nil_lt (colB_low (h2 _ (List.mem_cons_self ..))).2.2
    | succ i => exact h3 i x y hx hy
theorem box_ok {b : Box} (h : OkBox b) : boxD (encB b) = true := by
  show (colsD 3 (encC b.1) && colsD 6 (encC b.2)) = true
  rw [cols_ok h.1, cols_ok h.2]
  rfl
theorem house_ok {h : House} (o : OkHouse h) : houseD (encH h) = true := by
  obtain ⟨h1, h2, h3, h4⟩ := o
  show ((decide (1 ≤ (h.1.map encB).length) && decide ((h.1.map encB).length ≤ 30)) && ((h.1.map encB).all boxD && colsD 6 (encC h.2))) = true
  rw [List.length_map, decide_eq_true h1, decide_eq_true h2, cols_ok h4, List.all_map, show h.1.all (boxD ∘ encB) = true from List.all_eq_true.mpr fun b hb => box_ok (h3 b hb)]
  rfl
theorem stB_cols {cs : List Str} {m : Nat} (h : OkCols cs m) : StB (encC cs) = true := by
  show StBA (cs.map PyData.str) = true
  refine stBA_of fun d hd => ?_
  obtain ⟨c, hc, rfl⟩ := List.mem_map.mp hd
  have := (colB_low (h.2.1 c hc)).2.1
  show decide (c.length ≤ 1000) = true
  exact decide_eq_true (by omega)
theorem stB_house {h : House} (o : OkHouse h) : StB (encH h) = true := by
  show (StB (encBs h.1) && (StB (encC h.2) && true)) = true
  rw [stB_cols o.2.2.2, Bool.true_and, Bool.and_true]
  show StBA (h.1.map encB) = true
  refine stBA_of fun d hd => ?_
  obtain ⟨b, hb, rfl⟩ := List.mem_map.mp hd
  show (StB (encC b.1) && (StB (encC b.2) && true)) = true
  rw [stB_cols (o.2.2.1 b hb).1, stB_cols (o.2.2.1 b hb).2]
  rfl
/-! ### what is left -/
theorem less_less (c r s : List Nat) : less (less c r) s = less c (r ++ s) := by
  unfold less
  rw [List.filter_filter]
  apply List.filter_congr
  intro i _
  by_cases h1 : i ∈ r <;> by_cases h2 : i ∈ s <;> simp [h1, h2]
def leftOf (bs : List Box) (held : List Str) (closed : List Nat) : List Nat := less closed (roundsOf bs held closed).flatten
end Kw
set_option Elab.async false
set_option linter.all false
set_option maxRecDepth 100000
set_option maxHeartbeats 4000000
namespace Kw
open PySem PySem.Spec PyProof.Rows L2 Evl
abbrev sKeys : Stmt := topS 36
theorem scKeys : FnScope ["boxes", "some", "box", "colour"] ["boxes", "some"] (defScope sKeys) := ⟨rfl, rfl, rfl, by decide +kernel, rfl, by decide +kernel, by decide +kernel⟩
abbrev sFits : Stmt := topS 37
theorem scFits : FnScope ["locks", "held", "colour"] ["locks", "held"] (defScope sFits) := ⟨rfl, rfl, rfl, by decide +kernel, rfl, by decide +kernel, by decide +kernel⟩
abbrev sOpn : Stmt := topS 38
theorem scOpn : FnScope ["boxes", "held", "closed", "told", "ready", "box"] ["boxes", "held", "closed"] (defScope sOpn) := ⟨rfl, rfl, rfl, by decide +kernel, rfl, by decide +kernel, by decide +kernel⟩
abbrev sShB : Stmt := topS 39
theorem scShB : FnScope ["boxes", "hand", "broken", "held", "closed", "told", "left", "box"] ["boxes", "hand", "broken"] (defScope sShB) := ⟨rfl, rfl, rfl, by decide +kernel, rfl, by decide +kernel, by decide +kernel⟩
abbrev sWo : Stmt := topS 26
theorem scWo : FnScope ["row", "gone", "part"] ["row", "gone"] (defScope sWo) := ⟨rfl, rfl, rfl, by decide +kernel, rfl, by decide +kernel, by decide +kernel⟩
section
variable {P : Program} {w : World} {K : PySem.W.Frag} {mg : Str → Option Value} {base : Heap}
/-! ### check_house, of a house -/
def spChk (K : PySem.W.Frag) : Sp := fun vs H Q _ => ∃ (v : V) (h : House), vs = [v] ∧ HouseAt K H v h ∧ OkHouse h ∧ RetV .non H Q
theorem ok_chk {f fIsH : Addr} {fd fdIsH : FuncData} {k : Nat} (F : Fun K "check_house" "check_house" sChk f fd) (DIsH : Df K mg "is_house" sIsH ["thing"] fIsH fdIsH) (GIsH : FnOk P w K mg base CX0 (k + 3) fIsH fdIsH ["thing"] (spIsH K)) : FnOk P w K mg base CX0 (k + 4) f fd ["house"] (spChk K) := by
  refine F.ok scChk (fun vs H Q E h => ?_) (fun cdv A outer s H vs Q E hr h => ?_)
  · obtain ⟨v, b, rfl, _⟩ := h
    rfl
  · obtain ⟨v, b, rfl, ha, ho, q⟩ := h
    refine ⟨_, (pss_one (ps_if (pt_not (pt_val (pcall DIsH GIsH (hr.mono (by omega)) (pa_cons (pv 0) pa_nil)))) pss_never pss_nil)), ?_⟩
    exact s_when (b := false) (et_is (et_not (et_B (ev_call (z := .bl true) (ea_cons (ev_var rfl) ea_nil) (SpV.of fun H2 e2 Q q E => ⟨v, encH b, rfl, dp_ex e2 _ _ (dp_house ha), stB_house ho, by rw [house_ok ho]; exact q⟩)))) rfl) (fun hb => absurd hb (by decide)) (fun _ H1 e1 => q H1 e1)
/-! ### keys_in -/
def spKeys (K : PySem.W.Frag) : Sp := fun vs H Q _ => ∃ (b s : Addr) (bs : List Box) (is : List Nat), vs = [.ref b, .ref s] ∧ BoxesS K H b bs ∧ (SqL K H s (is.map vN) ∨ SqT K H s (is.map vN)) ∧ (∀ i ∈ is, i < bs.length) ∧ is.length ≤ 1000 ∧ (∀ b ∈ bs, b.2.length ≤ 6) ∧ RetL ((keysIn bs is).map V.str) H Q
theorem ok_keys {f  : Addr} {fd  : FuncData} {k : Nat} (F : Fun K "keys_in" "keys_in" sKeys f fd) : FnOk P w K mg base CX0 (k + 1) f fd ["boxes", "some"] (spKeys K) := by
  refine F.ok scKeys (fun vs H Q E h => ?_) (fun cdv A outer s H vs Q E hr h => ?_)
  · obtain ⟨b, s, bs, is, rfl, _⟩ := h
    rfl
  · obtain ⟨b, sa, bs, is, rfl, hB, hS, hlt, hl, h6, q⟩ := h
    have core : ∀ (wi : TI), EvW wi [some (.ref b), some (.ref sa), none, none] H (is.map vN).length (YAt (is.map vN)) → EvL (tLc2 wi (gName 2) tYes (iTup K (tOp (rIxT K) (tOp (rIx K) (tVar 0) (tVar 2)) (tC (.int 1)))) (gName 3) tYes (tVar 3) [2, 3] [3]) [some (.ref b), some (.ref sa), none, none] H ((keysIn bs is).map V.str) := by
      intro wi hw
      refine el_lc2 (K := K) hw (fun i => (bx bs (is.getD i 0)).2.map V.str) (fun i hi => ?_) ?_ (fun i x H1 H2 Q e hi hy k => ?_)
      · rw [flatMap_take is 0 (fun i => (bx bs i).2.map V.str) i (by rw [List.length_map] at hi; exact hi), map_flatMap', List.length_map]
        have := keysIn_len h6 (is.take i)
        unfold keysIn at this
        rw [List.length_take] at this
        omega
      · rw [List.length_map, flatMap_range is 0 (fun i => (bx bs i).2.map V.str), map_flatMap']
        rfl
      · obtain ⟨rfl, hx⟩ := hy
        obtain ⟨rfl, hi', hget⟩ := get_map 0 hx
        have hm := hlt _ (List.mem_of_getElem? hget)
        obtain ⟨l, kk, hl1, hk1, e1, e2⟩ := box_at (K := K) (σ := [some (.ref b), some (.ref sa), some (vN (is.getD i 0)), none]) (ta := tVar 0) (tb := tVar 2) (hB.ex e) hm (ev_var rfl) (ev_var rfl)
        exact k _ _ kk (Ex.refl _) rfl e2 hk1 fun y => ⟨rfl, rfl⟩
    rcases hS with hS | hS
    · refine ⟨_, (pss_one (ps_ret (pe_lc2 (own := [("box", 2), ("colour", 3)]) (vs1 := [3]) (g := (gName 2)) (tt := tYes) (g1 := (gName 3)) (tt1 := tYes) (wi1 := (iTup K (tOp (rIxT K) (tOp (rIx K) (tVar 0) (tVar 2)) (tC (.int 1))))) (te := (tVar 3)) rfl scKeys.nd (pi_list (pv 1)) (blkOk_by (N := ["boxes", "some", "box", "colour"]) (sc := defScope sKeys) (by decide +kernel)) (by decide) (fun _ _ _ _ _ => (pg_name (i := 2) scKeys.nd rfl (.inl rfl))) (fun _ _ _ _ _ => pts_nil) (fun _ _ _ _ _ => (pi_tup (pe_ix ix_tup (pe_ix ix_seq (pv 0) (pv 2) (fun _ _ => rfl)) pe_int (fun _ _ => rfl)))) (fun _ _ _ _ _ => (pg_name (i := 3) scKeys.nd rfl (.inl rfl))) (fun _ _ _ _ _ => pts_nil) (fun _ _ _ _ _ => (pv 3))))), ?_⟩
      exact s_retL (core _ (ew_list (ev_var rfl) hS)) q
    · refine ⟨_, (pss_one (ps_ret (pe_lc2 (own := [("box", 2), ("colour", 3)]) (vs1 := [3]) (g := (gName 2)) (tt := tYes) (g1 := (gName 3)) (tt1 := tYes) (wi1 := (iTup K (tOp (rIxT K) (tOp (rIx K) (tVar 0) (tVar 2)) (tC (.int 1))))) (te := (tVar 3)) rfl scKeys.nd (pi_tup (pv 1)) (blkOk_by (N := ["boxes", "some", "box", "colour"]) (sc := defScope sKeys) (by decide +kernel)) (by decide) (fun _ _ _ _ _ => (pg_name (i := 2) scKeys.nd rfl (.inl rfl))) (fun _ _ _ _ _ => pts_nil) (fun _ _ _ _ _ => (pi_tup (pe_ix ix_tup (pe_ix ix_seq (pv 0) (pv 2) (fun _ _ => rfl)) pe_int (fun _ _ => rfl)))) (fun _ _ _ _ _ => (pg_name (i := 3) scKeys.nd rfl (.inl rfl))) (fun _ _ _ _ _ => pts_nil) (fun _ _ _ _ _ => (pv 3))))), ?_⟩
      exact s_retL (core _ (ew_tup (ev_var rfl) hS)) q
/-! ### fits -/
def spFits (K : PySem.W.Frag) : Sp := fun vs H Q _ => ∃ (l h : Addr) (ls hs : List Str), vs = [.ref l, .ref h] ∧ SqT K H l (ls.map V.str) ∧ SqL K H h (hs.map V.str) ∧ RetV (.bl (fitsB ls hs)) H Q
theorem ok_fits {f  : Addr} {fd  : FuncData} {k : Nat} (F : Fun K "fits" "fits" sFits f fd) : FnOk P w K mg base CX0 (k + 1) f fd ["locks", "held"] (spFits K) := by
  refine F.ok scFits (fun vs H Q E h => ?_) (fun cdv A outer s H vs Q E hr h => ?_)
  · obtain ⟨l, h, ls, hs, rfl, _⟩ := h
    rfl
  · obtain ⟨l, h, ls, hs, rfl, hL, hH, q⟩ := h
    refine ⟨_, (pss_cons (ps_for PassesOwn.never rfl (pi_tup (pv 0)) (pg_name (i := 2) scFits.nd rfl (.inl rfl))
      (pss_one (ps_if (pt_cmpR op_notIn_seq (pv 2) (pv 1) (by rfl)) (pss_one (ps_ret pe_bl)) pss_nil)))
      (pss_one (ps_ret pe_bl))), ?_⟩
    refine q_forT (K := K) (a := l) (xs := ls.map V.str) (ev_var (v := .ref l) rfl) hL (fun i σ' H' => Ex H H' ∧ (∃ y, σ' = [some (.ref l), some (.ref h), y]) ∧ (ls.take i).all (fun c => decide (c ∈ hs)) = true) (fun H1 e1 => ⟨e1, ⟨none, rfl⟩, rfl⟩) (fun i σ' H' _ hP => ex_t hP.1 hL) (fun i x σ' H' hx hP => ?_) (fun σ' H' hP => ?_)
    · obtain ⟨eH, ⟨y, rfl⟩, hall⟩ := hP
      obtain ⟨rfl, hi, hget⟩ := get_map default hx
      show tIfS _ _ _ _ [some (.ref l), some (.ref h), some (.str (ls.getD i default))] H'
      have ht := et_test (ev_op (ev_var (σ := [some (.ref l), some (.ref h), some (.str (ls.getD i default))]) (i := 2) (v := .str (ls.getD i default)) rfl) (ev_var (i := 1) (v := .ref h) rfl) (rv_niL (K := K) (ex_l eH hH) rfl (flat_strs hs)))
      rw [inV_str] at ht
      refine s_when ht (fun hb H1 e1 => ?_) (fun hb H1 e1 => ?_)
      · have hf : fitsB ls hs = false := by
          rw [Bool.not_eq_true'] at hb
          exact List.all_eq_false.mpr ⟨_, List.mem_of_getElem? hget, by rw [hb]; decide⟩
        rw [hf] at q
        exact q H1 (eH.trans e1)
      · rw [Bool.not_eq_false'] at hb
        refine ⟨eH.trans e1, ⟨_, rfl⟩, ?_⟩
        rw [List.take_add_one, List.all_append, hall, hget]
        show (true && (decide (ls.getD i default ∈ hs) && true)) = true
        rw [hb]
        rfl
    · obtain ⟨eH, ⟨y, rfl⟩, hall⟩ := hP
      rw [List.length_map, List.take_length] at hall
      have hf : fitsB ls hs = true := hall
      rw [hf] at q
      exact q H' eH
/-! ### opened_in_rounds -/
def spOpn (K : PySem.W.Frag) : Sp := fun vs H Q _ => ∃ (b h c : Addr) (bs : List Box) (held : List Str) (closed : List Nat), vs = [.ref b, .ref h, .ref c] ∧ BoxesS K H b bs ∧ Few bs ∧ H h = some (.lst (held.map V.str)) ∧ H c = some (.lst (closed.map vN)) ∧
  (∀ i ∈ closed, i < bs.length) ∧ closed.length ≤ 1000 ∧ held.length + 6 * closed.length ≤ 10000 ∧
  ∀ p t l ys H2, H t = none → H l = none → Ex H H2 → H2 p = some (.tup [.ref t, .ref l]) → H2 t = some (.lst ys) → TupsAt K H2 ys (roundsOf bs held closed) → H2 l = some (.tup ((leftOf bs held closed).map vN)) → Q (.ref p) H2
def tFit (K : PySem.W.Frag) : TT := tB (tCall (spFits K) [] E0 (tCons (tOp (rIxT K) (tOp (rIx K) (tVar 0) (tVar 5)) (tC (.int 0))) (tCons (tVar 1) tNil)))
theorem el_ready {b h c : Addr} {y3 y4 y5 : Option V} {H : Hp} {bs : List Box} {held : List Str} {closed : List Nat} (hB : BoxesS K H b bs) (hF : Few bs) (hh : H h = some (.lst (held.map V.str))) (hc : H c = some (.lst (closed.map vN))) (hlt : ∀ i ∈ closed, i < bs.length) (hl : closed.length ≤ 1000) :
    EvL (tLc (iList K (tVar 2)) (gName 5) (tFit K) (tVar 5) [5]) [some (.ref b), some (.ref h), some (.ref c), y3, y4, y5] H ((readyOf bs held closed).map vN) := by
  refine el_lc (ew_list (ev_var rfl) (sq_of hc)) (by rw [List.length_map]; omega) (fun i => fitsB (bx bs (closed.getD i 0)).1 held) (fun i => vN (closed.getD i 0)) ?_ (fun i x H1 H2 Q e hi hy k => ?_)
  · rw [List.length_map]
    exact filter_range_map closed 0 (fun i => fitsB (bx bs i).1 held) vN
  · obtain ⟨rfl, hx⟩ := hy
    obtain ⟨rfl, hi', hget⟩ := get_map 0 hx
    have hm := hlt _ (List.mem_of_getElem? hget)
    obtain ⟨l, kk, hl1, hk1, e1, e2⟩ := box_at (K := K) (σ := [some (.ref b), some (.ref h), some (.ref c), y3, y4, some (vN (closed.getD i 0))]) (ta := tVar 0) (tb := tVar 5) (hB.ex e) hm (ev_var rfl) (ev_var rfl)
    refine k _ _ (Ex.refl _) rfl ?_ fun _ => ev_var rfl
    exact et_B (ev_call (ea_cons e1 (ea_cons (ev_var (v := .ref h) rfl) ea_nil)) (SpV.of fun H3 e3 Q q E => ⟨l, h, _, held, rfl, ex_t e3 hl1, sq_of ((e.trans e3) _ _ hh), q⟩))
theorem el_less {b h c r : Addr} {y3 y5 : Option V} {H : Hp} {closed ready : List Nat} (hc : H c = some (.lst (closed.map vN))) (hr : H r = some (.lst (ready.map vN))) (hl : closed.length ≤ 1000) :
    EvL (tLc (iList K (tVar 2)) (gName 5) (tTest (tOp (rIn K true) (tVar 5) (tVar 4))) (tVar 5) [5]) [some (.ref b), some (.ref h), some (.ref c), y3, some (.ref r), y5] H ((less closed ready).map vN) := by
  refine el_lc (ew_list (ev_var rfl) (sq_of hc)) (by rw [List.length_map]; omega) (fun i => !decide (closed.getD i 0 ∈ ready)) (fun i => vN (closed.getD i 0)) ?_ (fun i x H1 H2 Q e hi hy k => ?_)
  · rw [List.length_map]
    exact filter_range_map closed 0 (fun i => !decide (i ∈ ready)) vN
  · obtain ⟨rfl, hx⟩ := hy
    obtain ⟨rfl, hi', hget⟩ := get_map 0 hx
    refine k _ _ (Ex.refl _) rfl ?_ fun _ => ev_var rfl
    rw [← inV_nat]
    exact et_test (ev_op (ev_var rfl) (ev_var (v := .ref r) rfl) (rv_niL (sq_of (e _ _ hr)) rfl (flat_nats ready)))
theorem ok_opn {f fKeys fFits : Addr} {fd fdKeys fdFits : FuncData} {k : Nat} (F : Fun K "opened_in_rounds" "opened_in_rounds" sOpn f fd) (DKeys : Df K mg "keys_in" sKeys ["boxes", "some"] fKeys fdKeys) (DFits : Df K mg "fits" sFits ["locks", "held"] fFits fdFits) (GKeys : FnOk P w K mg base CX0 (k + 1) fKeys fdKeys ["boxes", "some"] (spKeys K)) (GFits : FnOk P w K mg base CX0 (k + 1) fFits fdFits ["locks", "held"] (spFits K)) (B : Bu mg) : FnOk P w K mg base CX0 (k + 2) f fd ["boxes", "held", "closed"] (spOpn K) := by
  refine F.ok scOpn (fun vs H Q E h => ?_) (fun cdv A outer s H vs Q E hr h => ?_)
  · obtain ⟨b, h, c, bs, held, closed, rfl, _⟩ := h
    rfl
  · obtain ⟨b, h, c, bs, held, closed, rfl, hB, hF, hh, hc, hlt, hl, hz, q⟩ := h
    refine ⟨_, (pss_cons (ps_set (i := 3) scOpn.nd rfl (.inl rfl) (pe_lst pa_nil))
      (pss_cons (ps_set (i := 4) scOpn.nd rfl (.inr rfl) (pe_lc (own := [("box", 5)]) (g := (gName 5)) (tt := (tB (tCall (spFits K) [] E0 (tCons (tOp (rIxT K) (tOp (rIx K) (tVar 0) (tVar 5)) (tC (.int 0))) (tCons (tVar 1) tNil))))) (te := (tVar 5)) rfl scOpn.nd (pi_list (pv 2)) (blkOk_by (N := ["boxes", "held", "closed", "told", "ready", "box"]) (sc := defScope sOpn) (by decide +kernel)) (fun _ _ _ _ _ => (pg_name (i := 5) scOpn.nd rfl (.inl rfl))) (fun _ _ _ _ _ => (pts_one (pt_val (pcall DFits GFits (hr.mono (by omega)) (pa_cons (pe_ix ix_tup (pe_ix ix_seq (pv 0) (pv 5) (fun _ _ => rfl)) pe_int (fun _ _ => rfl)) (pa_cons (pv 1) pa_nil)))))) (fun _ _ _ _ _ => (pv 5))))
      (pss_cons (ps_while PassesOwn.never (pt_truth (pv 4) (fun _ => rfl)) (pss_cons (ps_expr (pe_bm PySem.F.plainAttrs_list PySem.F.slot_list_append PySem.F.type_list_append mt_append (pv 3) (pa_cons (pe_callTy call_tupOf (by rfl) B.tup boot_tuple (pa_cons (pv 4) pa_nil)) pa_nil)))
      (pss_cons (ps_set (i := 1) scOpn.nd rfl (.inr rfl) (pe_op op_cat (pv 1) (pcall DKeys GKeys (hr.mono (by omega)) (pa_cons (pv 0) (pa_cons (pv 4) pa_nil)))))
      (pss_cons (ps_setLc (i := 2) (own := [("box", 5)]) (g := (gName 5)) (tt := (tTest (tOp (rIn K true) (tVar 5) (tVar 4)))) (te := (tVar 5)) rfl scOpn.nd rfl rfl (sw_true rfl rfl rfl (by decide +kernel)) (pi_list (pv 2)) (blkOk_by (N := ["boxes", "held", "closed", "told", "ready", "box"]) (sc := defScope sOpn) (by decide +kernel)) (fun _ _ _ _ _ => (pg_name (i := 5) scOpn.nd rfl (.inl rfl))) (fun _ _ _ _ _ => (pts_one (pt_cmpR op_notIn_seq (pv 5) (pv 4) (by rfl)))) (fun _ _ _ _ _ => (pv 5)))
      (pss_one (ps_set (i := 4) scOpn.nd rfl (.inr rfl) (pe_lc (own := [("box", 5)]) (g := (gName 5)) (tt := (tB (tCall (spFits K) [] E0 (tCons (tOp (rIxT K) (tOp (rIx K) (tVar 0) (tVar 5)) (tC (.int 0))) (tCons (tVar 1) tNil))))) (te := (tVar 5)) rfl scOpn.nd (pi_list (pv 2)) (blkOk_by (N := ["boxes", "held", "closed", "told", "ready", "box"]) (sc := defScope sOpn) (by decide +kernel)) (fun _ _ _ _ _ => (pg_name (i := 5) scOpn.nd rfl (.inl rfl))) (fun _ _ _ _ _ => (pts_one (pt_val (pcall DFits GFits (hr.mono (by omega)) (pa_cons (pe_ix ix_tup (pe_ix ix_seq (pv 0) (pv 5) (fun _ _ => rfl)) pe_int (fun _ _ => rfl)) (pa_cons (pv 1) pa_nil)))))) (fun _ _ _ _ _ => (pv 5)))))))))
      (pss_one (ps_ret (pe_tup (pa_cons (pv 3) (pa_cons (pe_callTy call_tupOf (by rfl) B.tup boot_tuple (pa_cons (pv 2) pa_nil)) pa_nil)))))))), ?_⟩
    refine q_asgL (xs := []) (el_lst ea_nil (by decide)) fun t H1 nt e1 ht => ?_
    refine q_asgL (el_ready (K := K) (hB.ex e1) hF (e1 _ _ hh) (e1 _ _ hc) hlt hl) fun r H2 nr e2 hr2 => ?_
    refine q_while (fun m σ' H' => ∃ (h' c' r' : Addr) (y5 : Option V) (held' : List Str) (closed' : List Nat) (done : List (List Nat)) (ys : List V), σ' = [some (.ref b), some (.ref h'), some (.ref c'), some (.ref t), some (.ref r'), y5] ∧ Ex H H' ∧
        H' h' = some (.lst (held'.map V.str)) ∧ H' c' = some (.lst (closed'.map vN)) ∧ H' r' = some (.lst ((readyOf bs held' closed').map vN)) ∧ H' t = some (.lst ys) ∧ TupsAt K H' ys done ∧ h' ≠ t ∧ c' ≠ t ∧ r' ≠ t ∧
        done ++ roundsOf bs held' closed' = roundsOf bs held closed ∧ closed' = less closed done.flatten ∧ (∀ i ∈ closed', i < bs.length) ∧ closed'.length ≤ 1000 ∧ held'.length + 6 * closed'.length ≤ 10000 ∧ done.length + closed'.length ≤ 1000 ∧ m = closed'.length) closed.length ?_ (fun m σ' H' hW => ?_)
    · refine ⟨h, c, r, none, held, closed, [], [], rfl, e1.trans e2, (e1.trans e2) _ _ hh, (e1.trans e2) _ _ hc, hr2, e2 _ _ ht, .nil, ne_of_none hh nt, ne_of_none hc nt, fun z => ?_, rfl, ?_, hlt, hl, hz, by simpa using hl, rfl⟩
      · rw [z, ht] at nr
        cases nr
      · show closed = closed.filter _
        exact (List.filter_eq_self.mpr fun i _ => by simp).symm
    · obtain ⟨h', c', r', y5, held', closed', done, ys, rfl, eH, hh', hc', hr', ht', hT, nh, nc, nrt, hsum, hcl, hlt', hl', hz', hd', rfl⟩ := hW
      refine ⟨_, et_truL (K := K) (ev_var (v := .ref r') rfl) (sq_of hr'), fun hb H3 e3 => ?_, fun hb H3 e3 => ?_⟩
      · have hne : readyOf bs held' closed' ≠ [] := fun z => by
          rw [z] at hb
          cases hb
        have hys : ys.length = done.length := paired_len hT
        have hrl := ready_less bs held' closed'
        have hlt2 := less_lt hne
        have hkl := keysIn_len (fun b hb => (hF.2 b hb).2) (readyOf bs held' closed')
        have hrm : ∀ i ∈ readyOf bs held' closed', i < bs.length := fun i hi => hlt' i (List.mem_filter.mp hi).1
        refine ⟨_, fun σ2 H2 hN => ⟨_, hlt2, hN⟩, ?_⟩
        refine q_appU (K := K) (l := t) (e3 _ _ ht') (ev_var rfl) (eu_tupL (K := K) (ev_var (v := .ref r') rfl) (sq_of (e3 _ _ hr'))) (by omega) fun p H4 hp e4 hp4 => ?_
        have fr : ∀ a o, H' a = some o → a ≠ t → (upd H4 t (.lst (ys ++ [.ref p]))) a = some o := fun a o ha na => by
          rw [upd_ne na]
          exact e4 _ _ (e3 _ _ ha)
        have eX : Ex H (upd H4 t (.lst (ys ++ [.ref p]))) := Ex.mut ((eH.trans e3).trans e4) nt
        have ht4 : H4 t = some (.lst ys) := e4 _ _ (e3 _ _ ht')
        have kT : KeepT H' (upd H4 t (.lst (ys ++ [.ref p]))) := (KeepT.ex (e3.trans e4)).trans (KeepT.lst ht4)
        refine q_asgL (xs := (held' ++ keysIn bs (readyOf bs held' closed')).map V.str) (by
            rw [List.map_append]
            refine el_cat (ev_var (v := .ref h') rfl) (fr _ _ hh' nh) (el_call (ea_cons (ev_var (v := .ref b) rfl) (ea_cons (ev_var (v := .ref r') rfl) ea_nil)) (SpL.of fun H5 e5 Q q E => ⟨b, r', bs, _, rfl, hB.ex (eX.trans e5), .inl (sq_of (e5 _ _ (fr _ _ hr' nrt))), hrm, by omega, fun b hb => (hF.2 b hb).2, q⟩)) ?_
            rw [List.length_map, List.length_map]
            omega) fun h2 H5 nh2 e5 hh2 => ?_
        have np : h2 ≠ t := fun z => by
          rw [z, upd_same] at nh2
          cases nh2
        refine q_asgL (el_less (K := K) (h := h2) (r := r') (e5 _ _ (fr _ _ hc' nc)) (e5 _ _ (fr _ _ hr' nrt)) hl') fun c2 H6 nc2 e6 hc2 => ?_
        have nc2t : c2 ≠ t := fun z => by
          rw [z, e5 _ _ upd_same] at nc2
          cases nc2
        have hlt2' : ∀ i ∈ less closed' (readyOf bs held' closed'), i < bs.length := fun i hi => hlt' i (List.mem_filter.mp hi).1
        refine s_asgL (el_ready (K := K) (hB.ex ((eX.trans e5).trans e6)) hF (e6 _ _ hh2) hc2 hlt2' (by omega)) fun r2 H7 nr2 e7 hr7 => ?_
        refine ⟨h2, c2, r2, y5, _, _, done ++ [readyOf bs held' closed'], ys ++ [.ref p], rfl, ((eX.trans e5).trans e6).trans e7, e7 _ _ (e6 _ _ hh2), e7 _ _ hc2, hr7, e7 _ _ (e6 _ _ (e5 _ _ upd_same)), ?_, np, nc2t, fun z => ?_, ?_, ?_, hlt2', by omega, ?_, ?_, rfl⟩
        · refine paired_app ((hT.keep (kT.trans (KeepT.ex ((e5.trans e6).trans e7))))) ⟨p, rfl, ?_⟩
          refine keep_t (KeepT.ex ((e5.trans e6).trans e7)) (keep_t (KeepT.lst ht4) (st_of hp4))
        · rw [z, e6 _ _ (e5 _ _ upd_same)] at nr2
          cases nr2
        · rw [List.append_assoc, ← hsum, roundsOf_cons hne]
          rfl
        · rw [List.flatten_append, List.flatten_singleton, ← less_less, ← hcl]
        · rw [List.length_append]
          omega
        · rw [List.length_append, List.length_singleton]
          have : 0 < (readyOf bs held' closed').length := List.length_pos_iff.mpr hne
          omega
      · have hne : readyOf bs held' closed' = [] := by
          cases e : readyOf bs held' closed' with
          | nil => rfl
          | cons a r =>
            rw [e] at hb
            cases hb
        rw [roundsOf_nil hne, List.append_nil] at hsum
        have hleft : closed' = leftOf bs held closed := by rw [hcl, hsum]; rfl
        refine ⟨.ref t, rfl, ?_⟩
        refine eu_tupL (K := K) (ev_var (v := .ref c') rfl) (sq_of (e3 _ _ hc')) H3 (Ex.refl H3) _ fun l H4 nl e4 hl4 => ?_
        refine ⟨by show 2 ≤ sizeLine; decide, fun p hp => ?_⟩
        have e5 := Ex.new (o := .tup [.ref t, .ref l]) hp
        have e45 := e4.trans e5
        refine q p t l ys _ nt (fresh_back (eH.trans e3) nl) ((eH.trans e3).trans e45) upd_same (e45 _ _ (e3 _ _ ht')) ?_ ?_
        · rw [← hsum]
          exact hT.keep (KeepT.ex (e3.trans e45))
        · rw [← hleft]
          exact e5 _ _ hl4
/-! ### shut_boxes -/
def spShB (K : PySem.W.Frag) : Sp := fun vs H Q _ => ∃ (b h k : Addr) (bs : List Box) (hand : List Str) (broken : List Nat), vs = [.ref b, .ref h, .ref k] ∧ BoxesS K H b bs ∧ Few bs ∧ SqT K H h (hand.map V.str) ∧ hand.length ≤ 100 ∧ SqT K H k (broken.map vN) ∧
  (∀ i ∈ broken, i < bs.length) ∧ broken.length ≤ 100 ∧ RetU ((shutOf bs hand broken).map vN) H Q
theorem ok_shB {f fKeys fOpn : Addr} {fd fdKeys fdOpn : FuncData} {k : Nat} (F : Fun K "shut_boxes" "shut_boxes" sShB f fd) (DKeys : Df K mg "keys_in" sKeys ["boxes", "some"] fKeys fdKeys) (DOpn : Df K mg "opened_in_rounds" sOpn ["boxes", "held", "closed"] fOpn fdOpn) (GKeys : FnOk P w K mg base CX0 (k + 1) fKeys fdKeys ["boxes", "some"] (spKeys K)) (GOpn : FnOk P w K mg base CX0 (k + 2) fOpn fdOpn ["boxes", "held", "closed"] (spOpn K)) (B : Bu mg) : FnOk P w K mg base CX0 (k + 3) f fd ["boxes", "hand", "broken"] (spShB K) := by
  refine F.ok scShB (fun vs H Q E h => ?_) (fun cdv A outer s H vs Q E hr h => ?_)
  · obtain ⟨b, h, k, bs, held, closed, rfl, _⟩ := h
    rfl
  · obtain ⟨b, h, kk, bs, hand, broken, rfl, hB, hF, hh, hhl, hk, hlt, hl, q⟩ := h
    refine ⟨_, (pss_cons (ps_set (i := 3) scShB.nd rfl (.inl rfl) (pe_op op_cat (pe_callTy call_list_of (by rfl) B.lst boot_list (pa_cons (pv 1) pa_nil)) (pcall DKeys GKeys (hr.mono (by omega)) (pa_cons (pv 0) (pa_cons (pv 2) pa_nil)))))
      (pss_cons (ps_setLc (i := 4) (own := [("box", 7)]) (g := (gName 7)) (tt := (tTest (tOp (rIn K true) (tVar 7) (tVar 2)))) (te := (tVar 7)) rfl scShB.nd rfl rfl (sw_true rfl rfl rfl (by decide +kernel)) (pi_range1 (by rfl) B.rng (pa_cons (pe_callB call_len_seq (by rfl) B.len PySem.boot_len (pa_cons (pv 0) pa_nil)) pa_nil)) (blkOk_by (N := ["boxes", "hand", "broken", "held", "closed", "told", "left", "box"]) (sc := defScope sShB) (by decide +kernel)) (fun _ _ _ _ _ => (pg_name (i := 7) scShB.nd rfl (.inl rfl))) (fun _ _ _ _ _ => (pts_one (pt_cmpR op_notIn_seq (pv 7) (pv 2) (by rfl)))) (fun _ _ _ _ _ => (pv 7)))
      (pss_cons (ps_asg (pcall DOpn GOpn (hr.mono (by omega)) (pa_cons (pv 0) (pa_cons (pv 3) (pa_cons (pv 4) pa_nil)))) (pg_tup rfl (pgs_cons (pg_name (i := 5) scShB.nd rfl (.inl rfl)) (pgs_cons (pg_name (i := 6) scShB.nd rfl (.inl rfl)) pgs_nil))))
      (pss_one (ps_ret (pv 6)))))), ?_⟩
    have hkl := keysIn_len (fun b hb => (hF.2 b hb).2) broken
    have hb30 := hF.1
    refine q_asgL (xs := (hand ++ keysIn bs broken).map V.str) (by
      rw [List.map_append]
      refine el_catN (el_listT (K := K) (ev_var (v := .ref h) rfl) hh) (el_call (ea_cons (ev_var (v := .ref b) rfl) (ea_cons (ev_var (v := .ref kk) rfl) ea_nil)) (SpL.of fun H5 e5 Q q E => ⟨b, kk, bs, _, rfl, hB.ex e5, .inr (ex_t e5 hk), hlt, by omega, fun b hb => (hF.2 b hb).2, q⟩)) ?_
      rw [List.length_map, List.length_map]
      omega) fun h3 H1 n1 e1 hh3 => ?_
    refine q_asgL (xs := (less (List.range bs.length) broken).map vN) (by
      refine el_lc (ew_rng1 (ea_cons (ev_lenB (K := K) (ev_var (v := .ref b) rfl) (hB.ex e1)) ea_nil) (by omega)) (by omega) (fun i => !decide (i ∈ broken)) (fun i => vN i) rfl (fun i x H2 H3 Q e hi hy k => ?_)
      obtain ⟨rfl, rfl⟩ := hy
      refine k _ _ (Ex.refl _) rfl ?_ fun _ => ?_
      · rw [← inV_nat]
        exact et_test (ev_op (ev_var rfl) (ev_var (v := .ref kk) rfl) (rv_niT (ex_t (e1.trans e) hk) rfl (flat_nats broken)))
      · exact ev_var rfl) fun h4 H2 n2 e2 hh4 => ?_
    have hcl : (less (List.range bs.length) broken).length ≤ bs.length := by
      have := less_len (List.range bs.length) broken
      rw [List.length_range] at this
      exact this
    have hz : (hand ++ keysIn bs broken).length + 6 * (less (List.range bs.length) broken).length ≤ 10000 := by
      rw [List.length_append]
      omega
    have hcm : ∀ i ∈ less (List.range bs.length) broken, i < bs.length := fun i hi => List.mem_range.mp (List.mem_filter.mp hi).1
    refine ⟨.ref b, rfl, .ref h3, rfl, .ref h4, rfl, b, h3, h4, bs, _, _, rfl, hB.ex (e1.trans e2), hF, e2 _ _ hh3, hh4, hcm, by omega, hz, fun p t l ys H3 nt nl e3 hp ht hT hll => ?_⟩
    refine ⟨p, _, rfl, st_of hp, rfl, .ref t, [.ref l], rfl, .ref l, [], rfl, rfl, .ref l, rfl, ?_⟩
    exact q l H3 (fresh_back (e1.trans e2) nl) ((e1.trans e2).trans e3) hll
/-! ### without -/
def spWo (K : PySem.W.Frag) : Sp := fun vs H Q _ => ∃ (a : Addr) (cs : List Str) (c : Str), vs = [.ref a, .str c] ∧ SqT K H a (cs.map V.str) ∧ cs.length ≤ 1000 ∧ RetU ((withoutL cs c).map V.str) H Q
theorem ok_wo {f  : Addr} {fd  : FuncData} {k : Nat} (F : Fun K "without" "without" sWo f fd) (B : Bu mg) : FnOk P w K mg base CX0 (k + 1) f fd ["row", "gone"] (spWo K) := by
  refine F.ok scWo (fun vs H Q E h => ?_) (fun cdv A outer s H vs Q E hr h => ?_)
  · obtain ⟨a, cs, c, rfl, _⟩ := h
    rfl
  · obtain ⟨a, cs, c, rfl, hS, hl, q⟩ := h
    refine ⟨_, (pss_one (ps_ret (pe_callTy call_tupOf (by rfl) B.tup boot_tuple (pa_cons (pe_lc (own := [("part", 2)]) (g := (gName 2)) (tt := (tTest (tOp rNe (tVar 2) (tVar 1)))) (te := (tVar 2)) rfl scWo.nd (pi_tup (pv 0)) (blkOk_by (N := ["row", "gone", "part"]) (sc := defScope sWo) (by decide +kernel)) (fun _ _ _ _ _ => (pg_name (i := 2) scWo.nd rfl (.inl rfl))) (fun _ _ _ _ _ => (pts_one (pt_cmpR op_ne (pv 2) (pv 1) (nomark _)))) (fun _ _ _ _ _ => (pv 2))) pa_nil)))), ?_⟩
    refine s_retU (eu_tupN (K := K) (xs := (withoutL cs c).map V.str) ?_) q
    refine el_lc (ew_tup (ev_var rfl) hS) (by rw [List.length_map]; omega) (fun i => !decide (cs.getD i default = c)) (fun i => .str (cs.getD i default)) ?_ (fun i x H1 H2 Q e hi hy k => ?_)
    · rw [List.length_map]
      exact filter_range_map cs default (fun x => !decide (x = c)) V.str
    · obtain ⟨rfl, hx⟩ := hy
      obtain ⟨rfl, hi', hget⟩ := get_map default hx
      refine k _ _ (Ex.refl _) rfl ?_ fun _ => ev_var rfl
      have e2 : decide (cs.getD i default = c) = decide (V.str (cs.getD i default) = V.str c) := decide_eq_decide.mpr ⟨fun h => by rw [h], fun h => V.str.inj h⟩
      rw [e2]
      exact et_test (ev_op (ev_var rfl) (ev_var (v := .str c) rfl) (rv_ne rfl))
end
end Kw
set_option Elab.async false
set_option linter.all false
set_option maxRecDepth 100000
set_option maxHeartbeats 4000000
namespace Kw
open PySem PySem.Spec PyProof.Rows L2 Evl
abbrev sCell : Stmt := topS 43
theorem scCell : FnScope ["script", "k"] ["script", "k"] (defScope sCell) := ⟨rfl, rfl, rfl, by decide +kernel, rfl, by decide +kernel, by decide +kernel⟩
abbrev sDraw : Stmt := topS 44
theorem scDraw : FnScope ["cell", "many", "size", "found", "rest", "stirred", "k"] ["cell", "many", "size"] (defScope sDraw) := ⟨rfl, rfl, rfl, by decide +kernel, rfl, by decide +kernel, by decide +kernel⟩
abbrev sBag : Stmt := topS 46
theorem scBag : FnScope ["script", "k"] ["script", "k"] (defScope sBag) := ⟨rfl, rfl, rfl, by decide +kernel, rfl, by decide +kernel, by decide +kernel⟩
abbrev sBags : Stmt := topS 47
theorem scBags : FnScope ["script", "limit", "k"] ["script", "limit"] (defScope sBags) := ⟨rfl, rfl, rfl, by decide +kernel, rfl, by decide +kernel, by decide +kernel⟩
abbrev sTake : Stmt := topS 48
theorem scTake : FnScope ["bag", "many"] ["bag", "many"] (defScope sTake) := ⟨rfl, rfl, rfl, by decide +kernel, rfl, by decide +kernel, by decide +kernel⟩
abbrev BuL (mg : Str → Option Value) : Prop := Bu mg
def DrawsOk (xs : List Int) : Prop := xs.length = 400 ∧ ∀ x ∈ xs, 0 ≤ x ∧ x < 1000
def Bag (H : Hp) (a : Addr) : Prop := ∃ (d : Addr) (n : Int) (xs : List Int), H a = some (.lst [.ref d, .int n]) ∧ H d = some (.lst (xs.map V.int)) ∧ DrawsOk xs
/-- all stays but what lies at a -/
def ExB (a : Addr) (H H' : Hp) : Prop := ∀ b o, b ≠ a → H b = some o → H' b = some o
theorem ExB.refl (a : Addr) (H : Hp) : ExB a H H := fun _ _ _ h => h
theorem ExB.trans {a : Addr} {H H1 H2 : Hp} (x : ExB a H H1) (y : ExB a H1 H2) : ExB a H H2 := fun b o n h => y b o n (x b o n h)
theorem ExB.of {a : Addr} {H H' : Hp} (e : Ex H H') : ExB a H H' := fun b o _ h => e b o h
theorem Bag.ex {H H' : Hp} {a : Addr} (e : Ex H H') (h : Bag H a) : Bag H' a := by
  obtain ⟨d, n, xs, h1, h2, h3⟩ := h
  exact ⟨d, n, xs, e _ _ h1, e _ _ h2, h3⟩
theorem Bag.keepT {H H' : Hp} {a : Addr} (h : Bag H a) (e : ExB a H H') : KeepT H H' := fun b xs r => by
  obtain ⟨d, n, ys, h1, _⟩ := h
  have nb : b ≠ a := by
    rintro rfl
    rcases r with r | ⟨o, r⟩
    · rw [h1] at r; cases r
    · rw [h1] at r; cases r
  rcases r with r | ⟨o, r⟩
  · exact .inl (e _ _ nb r)
  · exact .inr ⟨o, e _ _ nb r⟩
section
variable {P : Program} {w : World} {K : PySem.W.Frag} {mg : Str → Option Value} {base : Heap}
/-! ### _law_cell_at -/
def spCell (K : PySem.W.Frag) : Sp := fun vs H Q _ => ∃ (a : Addr) (ns : List Int) (k : Nat), vs = [.ref a, vN k] ∧ SqL K H a (ns.map V.int) ∧ ∀ c H2, Ex H H2 → Q (.int c) H2
theorem ok_cell {f : Addr} {fd : FuncData} {k : Nat} (F : Fun K "_law_cell_at" "_law_cell_at" sCell f fd) (B : Bu mg) : FnOk P w K mg base CX0 (k + 1) f fd ["script", "k"] (spCell K) := by
  refine F.ok scCell (fun vs H Q E h => ?_) (fun cdv A outer s H vs Q E hr h => ?_)
  · obtain ⟨a, ns, k, rfl, _⟩ := h
    rfl
  · obtain ⟨a, ns, k, rfl, hS, q⟩ := h
    refine ⟨_, pss_cons (ps_if (pt_cmpR op_lt (pv 1) (pe_callB call_len_seq (by rfl) B.len PySem.boot_len (pa_cons (pv 0) pa_nil)) (nomark _)) (pss_one (ps_ret (pe_ix ix_list (pv 0) (pv 1) (fun _ _ => rfl)))) pss_nil) (pss_one (ps_ret pe_int)), ?_⟩
    refine q_when (b := decide ((k : Int) < ((ns.map V.int).length : Nat))) (et_test (ev_op (ev_var (v := vN k) rfl) (ev_len (K := K) (ev_var (v := .ref a) rfl) hS) rv_I0)) (fun hb H1 e1 => ?_) (fun hb H1 e1 => q 0 H1 e1)
    have hk : k < ns.length := by
      have := of_decide_eq_true hb
      rw [List.length_map] at this
      omega
    exact s_ret (ev_op (ev_var (v := .ref a) rfl) (ev_var (v := vN k) rfl) (rv_ixL (v := .int ns[k]) (ex_l e1 hS) (atI_nat (by rw [List.getElem?_map, List.getElem?_eq_getElem hk]; rfl)))) fun H2 e2 => q _ H2 (e1.trans e2)
/-! ### _law_draws -/
def DrawI (H : Hp) (p : Addr) (c : Int) (i : Nat) (σ' : L2.St) (H' : Hp) : Prop := ∃ (rest st : Int) (y : Option V) (xs : List Int), σ' = [some (.int c), some (.int 400), some (.int 1000), some (.ref p), some (.int rest), some (.int st), y] ∧ Ex H H' ∧ H' p = some (.lst (xs.map V.int)) ∧ xs.length = i - 3 ∧ (∀ x ∈ xs, 0 ≤ x ∧ x < 1000) ∧ 0 ≤ st ∧ st < 2305843009213693951
theorem DrawI.grow {H H' : Hp} {p : Addr} {c rest st v : Int} {i : Nat} {y : Option V} {xs : List Int} (np : H p = none) (e : Ex H H') (h2 : 2 < i) (hl : xs.length = i - 3) (hall : ∀ x ∈ xs, 0 ≤ x ∧ x < 1000) (v0 : 0 ≤ v) (v1 : v < 1000) (s0 : 0 ≤ st) (s1 : st < 2305843009213693951) :
    DrawI H p c (i + 1) [some (.int c), some (.int 400), some (.int 1000), some (.ref p), some (.int rest), some (.int st), y] (upd H' p (.lst (xs.map V.int ++ [.int v]))) := by
  refine ⟨rest, st, y, xs ++ [v], rfl, Ex.mut e np, ?_, by rw [List.length_append, List.length_singleton]; omega, fun x hx => ?_, s0, s1⟩
  · rw [upd_same, List.map_append]
    rfl
  · rcases List.mem_append.mp hx with h | h
    · exact hall x h
    · rw [List.mem_singleton.mp h]
      exact ⟨v0, v1⟩
def spDraw (K : PySem.W.Frag) : Sp := fun vs H Q _ => ∃ c : Int, vs = [.int c, .int 400, .int 1000] ∧ ∀ p xs H2, H p = none → Ex H H2 → H2 p = some (.lst (xs.map V.int)) → DrawsOk xs → Q (.ref p) H2
theorem ok_draw {f : Addr} {fd : FuncData} {k : Nat} (F : Fun K "_law_draws" "_law_draws" sDraw f fd) (B : Bu mg) (BL : BuL mg) : FnOk P w K mg base CX0 (k + 1) f fd ["cell", "many", "size"] (spDraw K) := by
  refine F.ok scDraw (fun vs H Q E h => ?_) (fun cdv A outer s H vs Q E hr h => ?_)
  · obtain ⟨c, rfl, _⟩ := h
    rfl
  · obtain ⟨c, rfl, q⟩ := h
    refine ⟨_, pss_cons (ps_set (i := 3) scDraw.nd rfl (.inl rfl) (pe_lst pa_nil))
      (pss_cons (ps_set (i := 4) scDraw.nd rfl (.inl rfl) (pe_op op_mul (pv 0) (pe_callTy call_int1 (by rfl) BL.int PyProof.Rows.boot_int (pa_cons (pe_cmpR op_ge (pv 0) (pe_op op_pow pe_int pe_int) (nomark _)) pa_nil))))
      (pss_cons (ps_set (i := 5) scDraw.nd rfl (.inl rfl) (pe_op op_mod (pv 0) pe_int))
      (pss_cons (ps_for PassesOwn.never rfl (pi_range1 (by rfl) B.rng (pa_cons (pe_op op_add (pv 1) pe_int) pa_nil)) (pg_name (i := 6) scDraw.nd rfl (.inl rfl))
        (pss_cons (ps_set (i := 5) scDraw.nd rfl (.inl rfl) (pe_op op_mod (pe_op op_add (pe_op op_add (pe_op op_add (pe_op op_mul (pv 5) (pv 5)) (pe_op op_mul pe_int (pv 5))) (pv 6)) pe_int) pe_int))
        (pss_one (ps_if (pw_and (pt_cmpR op_gt (pv 6) pe_int (nomark _)) (pw_and1 (pt_cmpR op_gt (pv 4) pe_int (nomark _)))).pt
          (pss_cons (ps_expr (pe_bm PySem.F.plainAttrs_list PySem.F.slot_list_append PySem.F.type_list_append mt_append (pv 3) (pa_cons (pe_op op_mod (pv 4) (pv 2)) pa_nil)))
            (pss_one (ps_set (i := 4) scDraw.nd rfl (.inl rfl) (pe_op op_fdiv (pv 4) (pv 2)))))
          (pss_one (ps_if (pt_cmpR op_gt (pv 6) pe_int (nomark _)) (pss_one (ps_expr (pe_bm PySem.F.plainAttrs_list PySem.F.slot_list_append PySem.F.type_list_append mt_append (pv 3) (pa_cons (pe_op op_mod (pe_op op_fdiv (pv 5) pe_int) (pv 2)) pa_nil)))) pss_nil))))))
      (pss_one (ps_ret (pv 3)))))), ?_⟩
    refine q_asgL (xs := []) (el_lst ea_nil (by decide)) fun p H1 np e1 hp => ?_
    have t10 : ∀ {σ : L2.St} {H : Hp}, Ev (tOp (rI CPow fun i j => .int (i ^ j.toNat)) (tC (.int 10)) (tC (.int 18))) σ H (.int ((10 : Int) ^ (18 : Int).toNat)) := fun {σ H} => ev_op ev_c ev_c (rv_I ⟨by decide, by decide, by decide⟩)
    refine q_asg (v := .int (c * (if decide ((10 : Int) ^ (18 : Int).toNat ≤ c) then 1 else 0))) (ev_op (ev_var (v := .int c) rfl) (ev_cb (ea_cons (ev_op (ev_var (v := .int c) rfl) t10 rv_I0) ea_nil) (z := .int (if decide ((10 : Int) ^ (18 : Int).toNat ≤ c) then 1 else 0)) (fun H2 _ Q q => .inr ⟨_, rfl, q H2 (Ex.refl H2)⟩)) (rv_I (.inr ?_))) fun H2 e2 => ?_
    · split <;> exact ⟨by decide, by decide⟩
    refine q_asg (v := .int (c % 2305843009213693951)) (ev_op (ev_var (v := .int c) rfl) ev_c (rv_I (by decide))) fun H3 e3 => ?_
    refine q_forR1 (n := 403) (ea_cons (ev_op (ev_var (v := .int 400) rfl) ev_c rv_I0) ea_nil) (by decide) (DrawI H p c)
      (fun H4 e4 => ⟨_, _, none, [], rfl, ((e1.trans e2).trans e3).trans e4, ((e2.trans e3).trans e4) _ _ hp, rfl, by simp, Int.emod_nonneg _ (by decide), Int.emod_lt_of_pos _ (by decide)⟩) (fun i σ' H' hi hP => ?_) (fun σ' H' hP => ?_)
    · obtain ⟨rest, st, y, xs, rfl, eH, hp', hlen, hall, s0, s1⟩ := hP
      refine q_asg (v := .int ((st * st + 48271 * st + (i : Int) + 1) % 2305843009213693951)) (ev_op (ev_op (ev_op (ev_op (ev_op (ev_var (v := .int st) rfl) (ev_var (v := .int st) rfl) (rv_I (.inl ⟨by omega, by omega⟩))) (ev_op ev_c (ev_var (v := .int st) rfl) (rv_I (.inl ⟨by decide, by decide⟩))) rv_I0) (ev_var (v := .int (i : Int)) rfl) rv_I0) ev_c rv_I0) ev_c (rv_I (by decide))) fun H5 e5 => ?_
      generalize hst : (st * st + 48271 * st + (i : Int) + 1) % 2305843009213693951 = st2
      have z0 : 0 ≤ st2 := by rw [← hst]; exact Int.emod_nonneg _ (by decide)
      have z1 : st2 < 2305843009213693951 := by rw [← hst]; exact Int.emod_lt_of_pos _ (by decide)
      have hxl : (xs.map V.int).length < 100000 := by
        rw [List.length_map]
        omega
      refine s_if (b := decide ((2 : Int) < (i : Int)) && decide (0 < rest)) (et_and (et_test (ev_op (ev_var (v := .int (i : Int)) rfl) ev_c rv_gt)) fun _ => et_test (ev_op (ev_var (v := .int rest) rfl) ev_c rv_gt)) (fun hb H6 e6 => ?_) (fun hb H6 e6 => ?_)
      · have hb' := Bool.and_eq_true_iff.mp hb
        have h2 : 2 < i := by
          have := of_decide_eq_true hb'.1
          omega
        refine q_app (K := K) (l := p) ((e5.trans e6) _ _ hp') (ev_var (v := .ref p) rfl) (v := .int (rest % 1000)) (ev_op (ev_var (v := .int rest) rfl) (ev_var (v := .int 1000) rfl) (rv_I (by decide))) hxl fun H7 e7 => ?_
        refine s_asg (v := .int (rest / 1000)) (ev_op (ev_var (v := .int rest) rfl) (ev_var (v := .int 1000) rfl) (rv_I ⟨by decide, by decide⟩)) fun H8 e8 => ?_
        have g := DrawI.grow (c := c) (rest := rest / 1000) (y := some (.int (i : Int))) np (((eH.trans e5).trans e6).trans e7) h2 hlen hall (Int.emod_nonneg rest (by decide : (1000 : Int) ≠ 0)) (Int.emod_lt_of_pos rest (by decide : (0 : Int) < 1000)) z0 z1
        obtain ⟨r', s', y', xs', g1, g2, g3, g4⟩ := g
        exact ⟨r', s', y', xs', g1, g2.trans e8, e8 _ _ g3, g4⟩
      · refine s_when (b := decide ((2 : Int) < (i : Int))) (et_test (ev_op (ev_var (v := .int (i : Int)) rfl) ev_c rv_gt)) (fun hb2 H7 e7 => ?_) (fun hb2 H7 e7 => ?_)
        · have h2 : 2 < i := by
            have := of_decide_eq_true hb2
            omega
          refine s_app (K := K) (l := p) (((e5.trans e6).trans e7) _ _ hp') (ev_var (v := .ref p) rfl) (v := .int (st2 / 4096 % 1000)) (ev_op (ev_op (ev_var (v := .int st2) rfl) ev_c (rv_I ⟨by decide, by decide⟩)) (ev_var (v := .int 1000) rfl) (rv_I (by decide))) hxl fun H8 e8 => ?_
          exact DrawI.grow np ((((eH.trans e5).trans e6).trans e7).trans e8) h2 hlen hall (Int.emod_nonneg _ (by decide : (1000 : Int) ≠ 0)) (Int.emod_lt_of_pos _ (by decide : (0 : Int) < 1000)) z0 z1
        · have h2 : ¬ 2 < i := by
            have := of_decide_eq_false hb2
            omega
          exact ⟨rest, st2, _, xs, rfl, (((eH.trans e5).trans e6).trans e7), ((e5.trans e6).trans e7) _ _ hp', by omega, hall, z0, z1⟩
    · obtain ⟨rest, st, y, xs, rfl, eH, hp', hlen, hall, s0, s1⟩ := hP
      exact ⟨.ref p, rfl, q p xs H' np eH hp' ⟨hlen, hall⟩⟩
end
end Kw
set_option Elab.async false
set_option linter.all false
set_option maxRecDepth 100000
set_option maxHeartbeats 4000000
namespace Kw
open PySem PySem.Spec PyProof.Rows L2 Evl
section
variable {P : Program} {w : World} {K : PySem.W.Frag} {mg : Str → Option Value} {base : Heap}
/-! ### _law_bag -/
def spBag (K : PySem.W.Frag) : Sp := fun vs H Q _ => ∃ (a : Addr) (ns : List Int) (k : Nat), vs = [.ref a, vN k] ∧ SqL K H a (ns.map V.int) ∧ ∀ p d xs H2, H p = none → H d = none → Ex H H2 → H2 p = some (.lst [.ref d, .int 0]) → H2 d = some (.lst (xs.map V.int)) → DrawsOk xs → Q (.ref p) H2
theorem ok_bag {f fC fD : Addr} {fd fdC fdD : FuncData} {k : Nat} (F : Fun K "_law_bag" "_law_bag" sBag f fd) (DC : Df K mg "_law_cell_at" sCell ["script", "k"] fC fdC) (DD : Df K mg "_law_draws" sDraw ["cell", "many", "size"] fD fdD)
    (GC : FnOk P w K mg base CX0 (k + 1) fC fdC ["script", "k"] (spCell K)) (GD : FnOk P w K mg base CX0 (k + 1) fD fdD ["cell", "many", "size"] (spDraw K)) : FnOk P w K mg base CX0 (k + 2) f fd ["script", "k"] (spBag K) := by
  refine F.ok scBag (fun vs H Q E h => ?_) (fun cdv A outer s H vs Q E hr h => ?_)
  · obtain ⟨a, ns, k, rfl, _⟩ := h
    rfl
  · obtain ⟨a, ns, k, rfl, hS, q⟩ := h
    refine ⟨_, pss_one (ps_ret (pe_lst (pa_cons (pcall DD GD hr (pa_cons (pcall DC GC hr (pa_cons (pv 0) (pa_cons (pv 1) pa_nil))) (pa_cons pe_int (pa_cons pe_int pa_nil)))) (pa_cons pe_int pa_nil)))), ?_⟩
    refine ⟨.ref a, rfl, vN k, rfl, a, ns, k, rfl, hS, fun c H2 e2 => ?_⟩
    refine ⟨c, rfl, fun p xs H3 np e3 h3 ho => ⟨by show 2 ≤ sizeLine; decide, fun b nb => ?_⟩⟩
    have e4 := Ex.new (o := .lst [.ref p, .int 0]) nb
    exact q b p xs _ (fresh_back (e2.trans e3) nb) (fresh_back e2 np) ((e2.trans e3).trans e4) upd_same (e4 _ _ h3) ho
/-! ### _law_bags -/
def BagsAt (H : Hp) (ys : List V) : Prop := ∀ y ∈ ys, ∃ a, y = .ref a ∧ Bag H a
theorem BagsAt.ex {H H' : Hp} {ys : List V} (e : Ex H H') (h : BagsAt H ys) : BagsAt H' ys := fun y hy => by
  obtain ⟨a, h1, h2⟩ := h y hy
  exact ⟨a, h1, h2.ex e⟩
def spBags (K : PySem.W.Frag) (lim : Nat) : Sp := fun vs H Q _ => ∃ (a : Addr) (ns : List Int), vs = [.ref a, vN lim] ∧ SqL K H a (ns.map V.int) ∧ ns.length ≤ 1000 ∧ ∀ p ys H2, H p = none → Ex H H2 → H2 p = some (.lst ys) → BagsAt H2 ys → (∀ y ∈ ys, y ≠ .ref p) → ys.length ≤ lim → Q (.ref p) H2
/-- the lists made on the way stay apart from the list that is made of them -/
theorem ok_bags {f fB : Addr} {fd fdB : FuncData} {k lim : Nat} (hlim : 1 ≤ lim ∧ lim ≤ 1000) (F : Fun K "_law_bags" "_law_bags" sBags f fd) (B : Bu mg) (BL : BuL mg) (DB : Df K mg "_law_bag" sBag ["script", "k"] fB fdB)
    (GB : FnOk P w K mg base CX0 (k + 2) fB fdB ["script", "k"] (spBag K)) : FnOk P w K mg base CX0 (k + 3) f fd ["script", "limit"] (spBags K lim) := by
  refine F.ok scBags (fun vs H Q E h => ?_) (fun cdv A outer s H vs Q E hr h => ?_)
  · obtain ⟨a, ns, rfl, _⟩ := h
    rfl
  · obtain ⟨a, ns, rfl, hS, hl, q⟩ := h
    refine ⟨_, pss_one (ps_ret (pe_lc (own := [("k", 2)]) (g := gName 2) (tt := tYes) (te := tCall (spBag K) [] E0 (tCons (tVar 0) (tCons (tVar 2) tNil))) rfl scBags.nd
        (pi_range1 (by rfl) B.rng (pa_cons (pe_callB (call_max2 rfl) (by rfl) BL.max PyProof.Rows.boot_max (pa_cons pe_int (pa_cons (pe_callB (call_min2 rfl) (by rfl) BL.min PyProof.Rows.boot_min (pa_cons (pv 1) (pa_cons (pe_callB call_len_seq (by rfl) B.len PySem.boot_len (pa_cons (pv 0) pa_nil)) pa_nil))) pa_nil))) pa_nil))
        (blkOk_by (N := ["script", "limit", "k"]) (sc := defScope sBags) (by decide +kernel)) (fun _ _ _ _ _ => pg_name (i := 2) scBags.nd rfl (.inl rfl)) (fun _ _ _ _ _ => pts_nil) (fun _ _ _ _ _ => pcall DB GB hr (pa_cons (pv 0) (pa_cons (pv 2) pa_nil))))), ?_⟩
    have hn : ∃ n : Nat, n ≤ lim ∧ (if (if ((ns.map V.int).length : Int) < (lim : Int) then ((ns.map V.int).length : Int) else (lim : Int)) > 1 then (if ((ns.map V.int).length : Int) < (lim : Int) then ((ns.map V.int).length : Int) else (lim : Int)) else 1) = (n : Int) := by
      split <;> split
      · exact ⟨(ns.map V.int).length, by omega, rfl⟩
      · exact ⟨1, by omega, rfl⟩
      · exact ⟨lim, by omega, rfl⟩
      · exact ⟨1, by omega, rfl⟩
    obtain ⟨n, hn1, hn2⟩ := hn
    refine ⟨vN lim, rfl, .ref a, rfl, a, _, rfl, .inl hS, (lim : Int), _, rfl, 1, _, rfl, _, rfl, ?_⟩
    rw [hn2]
    refine ⟨by omega, by omega, fun D hD => ?_⟩
    rw [Int.toNat_natCast]
    refine lc_it (walk_rng0 (n := n)) (Pv := fun i H' => Ex H H' ∧ ∃ ys : List V, H' D = some (.lst ys) ∧ ys.length = i ∧ ∀ y ∈ ys, ∃ a d n xs, y = .ref a ∧ a ≠ D ∧ d ≠ D ∧ H' a = some (.lst [.ref d, .int n]) ∧ H' d = some (.lst (xs.map V.int)) ∧ DrawsOk xs) ⟨Ex.new hD, [], upd_same, rfl, by simp⟩
      (fun _ _ _ _ => trivial) (fun i x H' H2 hi p y => ?_) (fun H' p => ?_)
    · obtain ⟨p1, ys, p2, p3, p4⟩ := p
      obtain ⟨rfl, rfl⟩ := y
      refine ⟨rfl, yes_do ?_⟩
      refine ⟨.ref a, rfl, vN i, rfl, a, ns, i, rfl, ex_l p1 hS, fun p d xs H3 np nd e3 h3 h3' ho => ?_⟩
      have hD3 : H3 D = some (.lst ys) := e3 _ _ p2
      have npD : p ≠ D := fun z => by
        rw [z, p2] at np
        cases np
      have ndD : d ≠ D := fun z => by
        rw [z, p2] at nd
        cases nd
      refine ⟨ys, hD3, sz_lt (by omega), Ex.mut (p1.trans e3) hD, ys ++ [.ref p], upd_same, by rw [List.length_append, List.length_singleton, p3], fun y hy => ?_⟩
      rcases List.mem_append.mp hy with h | h
      · obtain ⟨a', d', n', xs', r1, r2, r3, r4, r5, r6⟩ := p4 y h
        exact ⟨a', d', n', xs', r1, r2, r3, by rw [upd_ne r2]; exact e3 _ _ r4, by rw [upd_ne r3]; exact e3 _ _ r5, r6⟩
      · rw [List.mem_singleton.mp h]
        exact ⟨p, d, 0, xs, rfl, npD, ndD, by rw [upd_ne npD]; exact h3, by rw [upd_ne ndD]; exact h3', ho⟩
    · obtain ⟨p1, ys, p2, p3, p4⟩ := p
      refine q D ys H' hD p1 p2 (fun y hy => ?_) (fun y hy z => ?_) (by omega)
      · obtain ⟨a', d', n', xs', r1, r2, r3, r4, r5, r6⟩ := p4 y hy
        exact ⟨a', r1, d', n', xs', r4, r5, r6⟩
      · obtain ⟨a', d', n', xs', r1, r2, r3, r4, r5, r6⟩ := p4 y hy
        rw [r1] at z
        exact r2 (V.ref.inj z)
theorem ExB.back {a : Addr} {H H' : Hp} (e : ExB a H H') (h : Bag H' a) {b : Addr} (hb : H' b = none) : H b = none := by
  obtain ⟨d, n, xs, h1, _⟩ := h
  cases q : H b with
  | none => rfl
  | some o =>
    have nb : b ≠ a := fun z => by
      rw [z, h1] at hb
      cases hb
    rw [e b o nb q] at hb
    cases hb
/-! ### _law_take -/
def spTake (K : PySem.W.Frag) : Sp := fun vs H Q _ => ∃ (a : Addr) (m : Int), vs = [.ref a, .int m] ∧ Bag H a ∧ 0 < m ∧ ∀ r H', 0 ≤ r → r < m → ExB a H H' → Bag H' a → Q (.int r) H'
theorem ok_take {f : Addr} {fd : FuncData} {k : Nat} (F : Fun K "_law_take" "_law_take" sTake f fd) (B : Bu mg) : FnOk P w K mg base CX0 (k + 1) f fd ["bag", "many"] (spTake K) := by
  refine F.ok scTake (fun vs H Q E h => ?_) (fun cdv A outer s H vs Q E hr h => ?_)
  · obtain ⟨a, m, rfl, _⟩ := h
    rfl
  · obtain ⟨a, m, rfl, ⟨d, n, xs, h1, h2, h3⟩, hm, q⟩ := h
    refine ⟨_, pss_cons (ps_asg (pe_op op_add (pe_ix ix_list (pv 0) pe_int (fun _ _ => rfl)) pe_int) (pg_sub (pv 0) pe_int set_list))
      (pss_one (ps_ret (pe_op op_mod (pe_ix ix_list (pe_ix ix_list (pv 0) pe_int (fun _ _ => rfl)) (pe_op op_mod (pe_ix ix_list (pv 0) pe_int (fun _ _ => rfl)) (pe_callB call_len_seq (by rfl) B.len PySem.boot_len (pa_cons (pe_ix ix_list (pv 0) pe_int (fun _ _ => rfl)) pa_nil))) (fun _ _ => rfl)) (pv 1)))), ?_⟩
    have nad : d ≠ a := fun z => by
      rw [z, h1] at h2
      have := HO.lst.inj (Option.some.inj h2)
      have := congrArg List.length this
      rw [List.length_map, h3.1] at this
      simp at this
    refine q_setL (l := a) (xs := [.ref d, .int n]) (j := 1) (v := .int (n + 1)) h1 (ev_op (ev_op (ev_var (v := .ref a) rfl) ev_c (rv_ixL (K := K) (sq_of h1) at1)) ev_c rv_I0) (ev_var rfl) ev_c (by show 1 < 2; decide) fun H1 e1 => ?_
    have g1 : upd H1 a (.lst ([V.ref d, .int n].set 1 (.int (n + 1)))) a = some (.lst [.ref d, .int (n + 1)]) := upd_same
    have g2 : upd H1 a (.lst ([V.ref d, .int n].set 1 (.int (n + 1)))) d = some (.lst (xs.map V.int)) := by
      rw [upd_ne nad]
      exact e1 _ _ h2
    have g3 : ExB a H (upd H1 a (.lst ([V.ref d, .int n].set 1 (.int (n + 1))))) := fun b o nb hb => by
      rw [upd_ne nb]
      exact e1 _ _ hb
    generalize upd H1 a (.lst ([V.ref d, .int n].set 1 (.int (n + 1)))) = G at g1 g2 g3
    have hlen : (xs.map V.int).length = 400 := by rw [List.length_map, h3.1]
    have r0 : 0 ≤ (n + 1) % 400 := Int.emod_nonneg _ (by decide)
    have r1 : (n + 1) % 400 < 400 := Int.emod_lt_of_pos _ (by decide)
    obtain ⟨j, hj⟩ := Int.eq_ofNat_of_zero_le r0
    have hj' : j < xs.length := by
      rw [h3.1]
      omega
    have ed : Ev (tOp (rIxL K) (tVar 0) (tC (.int 0))) [some (.ref a), some (.int m)] G (.ref d) := ev_op (ev_var (v := .ref a) rfl) ev_c (rv_ixL (K := K) (sq_of g1) at0)
    refine s_ret (v := .int (xs[j] % m)) (ev_op (ev_op ed (ev_is (w := .int (j : Int)) (ev_op (ev_op (ev_var (v := .ref a) rfl) ev_c (rv_ixL (K := K) (sq_of g1) at1)) (ev_len (K := K) ed (sq_of g2)) (rv_I ?_)) ?_) (rv_ixL (K := K) (v := .int xs[j]) (sq_of g2) (atI_nat (by rw [List.getElem?_map, List.getElem?_eq_getElem hj']; rfl)))) (ev_var (v := .int m) rfl) (rv_I hm)) fun H2 e2 => ?_
    · rw [hlen]
      decide
    · rw [hlen]
      show V.int ((n + 1) % 400) = _
      rw [hj]
    · exact q _ H2 (Int.emod_nonneg _ (by omega)) (Int.emod_lt_of_pos _ hm) (g3.trans (ExB.of e2)) ⟨d, n + 1, xs, e2 _ _ g1, e2 _ _ g2, h3⟩
end
end Kw
set_option Elab.async false
set_option linter.all false
set_option maxRecDepth 100000
set_option maxHeartbeats 4000000
namespace Kw
open PySem PySem.Spec PyProof.Rows L2 Evl
abbrev sSome : Stmt := topS 49
theorem scSome : FnScope ["bag", "most", "wide", "names", "found", "turn"] ["bag", "most", "wide"] (defScope sSome) := ⟨rfl, rfl, rfl, by decide +kernel, rfl, by decide +kernel, by decide +kernel⟩
abbrev sHouse : Stmt := topS 50
theorem scHouse : FnScope ["bag", "boxes", "locks", "wide", "found", "turn"] ["bag", "boxes", "locks", "wide"] (defScope sHouse) := ⟨rfl, rfl, rfl, by decide +kernel, rfl, by decide +kernel, by decide +kernel⟩
def names12 : List Str := ["amber", "blue", "cyan", "dun", "ebony", "fawn", "gold", "hazel", "ivory", "jade", "khaki", "lime"]
theorem names_col : ∀ c ∈ names12, colB c = true := by decide +kernel
theorem rising_of_sorted : ∀ {ys : List Str}, ys.Nodup → sortedS ys = true → Rising ys := by
  intro ys hn hs i x y hx hy
  have key : ∀ (r : List Str) (p : Str) (i : Nat) (x y : Str), risingS p r = true → (p :: r)[i]? = some x → (p :: r)[i + 1]? = some y → ltCps y.cps.toList x.cps.toList = false := by
    intro r
    induction r with
    | nil =>
      intro p i x y _ _ h
      simp at h
    | cons a r ih =>
      intro p i x y h hx hy
      have h' : (!ltCps a.cps.toList p.cps.toList && risingS a r) = true := h
      rw [Bool.and_eq_true_iff] at h'
      cases i with
      | zero =>
        have e1 : p = x := Option.some.inj hx
        have e2 : a = y := Option.some.inj hy
        rw [← e1, ← e2]
        have := h'.1
        cases q : ltCps a.cps.toList p.cps.toList with
        | false => rfl
        | true =>
          rw [q] at this
          cases this
      | succ i => exact ih a i x y h'.2 hx hy
  cases ys with
  | nil => simp at hx
  | cons p r =>
    have h1 := key r p i x y hs hx hy
    rw [ltCps_eq] at h1
    have h2 := of_decide_eq_false h1
    have h3 : x.cps.toList ≤ y.cps.toList := List.not_lt.mp h2
    have hne : x.cps.toList ≠ y.cps.toList := fun z => by
      have := nd_ix hn (by rw [str_ext z] at hx; exact hx) hy
      omega
    by_cases hlt : x.cps.toList < y.cps.toList
    · exact hlt
    · exact absurd (List.le_antisymm h3 (List.not_lt.mp hlt)) hne
theorem any_key {kvs : List (Key × V)} {k : Key} : (kvs.any fun kv => decide (kv.1 = k)) = true ↔ k ∈ kvs.map (·.1) := by
  rw [List.any_eq_true, List.mem_map]
  constructor
  · rintro ⟨x, h1, h2⟩
    exact ⟨x, h1, of_decide_eq_true h2⟩
  · rintro ⟨x, h1, h2⟩
    exact ⟨x, h1, decide_eq_true h2⟩
theorem putK_in {kvs : List (Key × V)} {k : Key} {v : V} (h : k ∈ kvs.map (·.1)) : (putK kvs k v).map (·.1) = kvs.map (·.1) := by
  unfold putK
  rw [if_pos (any_key.mpr h), List.map_map]
  apply List.map_congr_left
  intro x hx
  show (if x.1 = k then (x.1, v) else x).1 = x.1
  split <;> rfl
theorem putK_out {kvs : List (Key × V)} {k : Key} {v : V} (h : ¬ k ∈ kvs.map (·.1)) : (putK kvs k v).map (·.1) = kvs.map (·.1) ++ [k] := by
  unfold putK
  rw [if_neg (fun z => h (any_key.mp z)), List.map_append]
  rfl
abbrev BuS (mg : Str → Option Value) : Prop := Bu mg
section
variable {P : Program} {w : World} {K : PySem.W.Frag} {mg : Str → Option Value} {base : Heap}
def spSome (K : PySem.W.Frag) : Sp := fun vs H Q _ => ∃ (a : Addr) (m w : Nat), vs = [.ref a, vN m, vN w] ∧ Bag H a ∧ m ≤ 6 ∧ 1 ≤ w ∧ w ≤ 12 ∧ ∀ p cs H', H p = none → ExB a H H' → Bag H' a → H' p = some (.tup (cs.map V.str)) → OkCols cs m → (∀ c ∈ cs, c ∈ names12) → Q (.ref p) H'
theorem ok_some {f fT : Addr} {fd fdT : FuncData} {k : Nat} (F : Fun K "_law_some" "_law_some" sSome f fd) (B : Bu mg) (BS : BuS mg) (DT : Df K mg "_law_take" sTake ["bag", "many"] fT fdT) (GT : FnOk P w K mg base CX0 (k + 1) fT fdT ["bag", "many"] (spTake K)) : FnOk P w K mg base CX0 (k + 2) f fd ["bag", "most", "wide"] (spSome K) := by
  refine F.ok scSome (fun vs H Q E h => ?_) (fun cdv A outer s H vs Q E hr h => ?_)
  · obtain ⟨a, m, w, rfl, _⟩ := h
    rfl
  · obtain ⟨a, m, wd, rfl, hB, hm, hw1, hw2, q⟩ := h
    refine ⟨_, pss_cons (ps_set (i := 3) scSome.nd rfl (.inl rfl) (pe_lst (pa_cons pe_str (pa_cons pe_str (pa_cons pe_str (pa_cons pe_str (pa_cons pe_str (pa_cons pe_str (pa_cons pe_str (pa_cons pe_str (pa_cons pe_str (pa_cons pe_str (pa_cons pe_str (pa_cons pe_str pa_nil))))))))))))))
      (pss_cons (ps_set (i := 4) scSome.nd rfl (.inl rfl) pe_dnewK)
      (pss_cons (ps_for PassesOwn.never rfl (pi_range1 (by rfl) B.rng (pa_cons (pcall DT GT hr (pa_cons (pv 0) (pa_cons (pe_op op_add (pv 1) pe_int) pa_nil))) pa_nil)) (pg_name (i := 5) scSome.nd rfl (.inl rfl))
        (pss_one (ps_dput (hu_of hr) (pv 4) (pe_ix ix_list (pv 3) (pcall DT GT hr (pa_cons (pv 0) (pa_cons (pv 2) pa_nil))) (fun _ _ => rfl)) pe_bl rfl)))
      (pss_one (ps_ret (pe_callTy call_tupOf (by rfl) B.tup boot_tuple (pa_cons (pe_callB (call_sortedD rfl) (by rfl) BS.srt PyProof.Rows.boot_sorted (pa_cons (pv 4) pa_nil)) pa_nil)))))), ?_⟩
    refine q_asgL (xs := names12.map V.str) (el_lst (ea_cons ev_c (ea_cons ev_c (ea_cons ev_c (ea_cons ev_c (ea_cons ev_c (ea_cons ev_c (ea_cons ev_c (ea_cons ev_c (ea_cons ev_c (ea_cons ev_c (ea_cons ev_c (ea_cons ev_c ea_nil)))))))))))) (by show 12 ≤ 100000; decide)) fun l H0 nl e1 hl => fun d nd => ?_
    have nla : l ≠ a := fun z => by
      obtain ⟨da, na, xa, hBa, _⟩ := hB
      rw [z, hBa] at nl
      cases nl
    have e2 := Ex.new (H := H0) (o := .dK []) nd
    have nda : d ≠ a := fun z => by
      obtain ⟨da, na, xa, hBa, _⟩ := hB.ex e1
      rw [z, hBa] at nd
      cases nd
    have nH : H d = none := fresh_back e1 nd
    have ndl : d ≠ l := fun z => by
      rw [z, hl] at nd
      cases nd
    refine ⟨.ref a, rfl, vN m, rfl, (m : Int), 1, rfl, rfl, a, (m : Int) + 1, rfl, hB.ex (e1.trans e2), by omega, fun r H1 r0 r1 x1 b1 => ?_⟩
    refine ⟨r, rfl, by omega, by omega, ?_⟩
    refine for_range (lo := 0) (n := r.toNat) (fun i σ' H' => ∃ (y : Option V) (kvs : List (Key × V)) (ks : List Str), σ' = [some (.ref a), some (vN m), some (vN wd), some (.ref l), some (.ref d), y] ∧ ExB a H H' ∧ Bag H' a ∧ H' l = some (.lst (names12.map V.str)) ∧ H' d = some (.dK kvs) ∧ kvs.map (·.1) = ks.map Sum.inr ∧ ks.Nodup ∧ (∀ c ∈ ks, c ∈ names12) ∧ ks.length ≤ i)
      ⟨none, [], [], rfl, (ExB.of (e1.trans e2)).trans x1, b1, x1 _ _ nla (e2 _ _ hl), x1 _ _ nda upd_same, rfl, List.nodup_nil, by simp, Nat.le_refl _⟩ (fun i σ' H' hi hP => ?_) (fun σ' H' hP => ?_)
    · obtain ⟨y, kvs, ks, rfl, x2, b2, h3, h4, hk, hnd, hin, hlen⟩ := hP
      refine ⟨.ref d, rfl, .ref l, rfl, .ref a, rfl, vN wd, rfl, a, (wd : Int), rfl, b2, by omega, fun r2 H2 s0 s1 x3 b3 => ?_⟩
      obtain ⟨j, hj⟩ := Int.eq_ofNat_of_zero_le s0
      have hj12 : j < names12.length := by
        show j < 12
        omega
      have h3' := x3 _ _ nla h3
      have h4' := x3 _ _ nda h4
      refine ⟨l, names12.map V.str, r2, .str names12[j], rfl, rfl, sq_of h3', by rw [hj]; exact atI_nat (by rw [List.getElem?_map, List.getElem?_eq_getElem hj12]; rfl), d, _, rfl, DPut.k (k := Sum.inr names12[j]) h4' ?_, ?_⟩
      · have := congrArg List.length hk
        rw [List.length_map, List.length_map] at this
        exact sz_lt (by omega)
      · have b4 : Bag (upd H2 d (.dK (putK kvs (Sum.inr names12[j]) (.bl true)))) a := by
          obtain ⟨d', n', xs', g1, g2, g3⟩ := b3
          refine ⟨d', n', xs', by rw [upd_ne (Ne.symm nda)]; exact g1, ?_, g3⟩
          have : d' ≠ d := fun z => by
            rw [z, h4'] at g2
            cases g2
          rw [upd_ne this]
          exact g2
        have x4 : ExB a H (upd H2 d (.dK (putK kvs (Sum.inr names12[j]) (.bl true)))) := fun b o nb hb => by
          have : b ≠ d := ne_of_none hb nH
          rw [upd_ne this]
          exact (x2.trans x3) b o nb hb
        by_cases hmem : names12[j] ∈ ks
        · have hput := putK_in (kvs := kvs) (k := Sum.inr names12[j]) (v := .bl true) (by rw [hk]; exact List.mem_map.mpr ⟨_, hmem, rfl⟩)
          rw [hk] at hput
          exact ⟨some _, _, ks, rfl, x4, b4, by rw [upd_ne (Ne.symm ndl)]; exact h3', upd_same, hput, hnd, hin, by omega⟩
        · have hput := putK_out (kvs := kvs) (k := Sum.inr names12[j]) (v := .bl true) (by
            rw [hk]
            intro z
            obtain ⟨c, h1, h2⟩ := List.mem_map.mp z
            exact hmem (Sum.inr.inj h2 ▸ h1))
          rw [hk] at hput
          refine ⟨some _, _, ks ++ [names12[j]], rfl, x4, b4, by rw [upd_ne (Ne.symm ndl)]; exact h3', upd_same, by rw [hput, List.map_append]; rfl, nd_snoc hnd hmem, fun c hc => ?_, by rw [List.length_append, List.length_singleton]; omega⟩
          rcases List.mem_append.mp hc with h | h
          · exact hin c h
          · rw [List.mem_singleton.mp h]
            exact List.getElem_mem hj12
    · obtain ⟨y, kvs, ks, rfl, x2, b2, h3, h4, hk, hnd, hin, hlen⟩ := hP
      refine ⟨.ref d, rfl, d, kvs, ks, rfl, .inl h4, hk, by omega, fun ys p perm srt np => ⟨p, ys.map V.str, rfl, .inl ⟨sq_of upd_same, fun t nt => ?_⟩⟩⟩
      have e5 := Ex.new (o := .lst (ys.map V.str)) np
      have e6 := Ex.new (H := upd H' p (.lst (ys.map V.str))) (o := .tup (ys.map V.str)) nt
      refine q t ys _ (x2.back b2 (fresh_back e5 nt)) (x2.trans (ExB.of (e5.trans e6))) (b2.ex (e5.trans e6)) upd_same ⟨?_, fun c hc => names_col c (hin c (perm.mem_iff.mp hc)), rising_of_sorted (perm.nodup_iff.mpr hnd) srt⟩ fun c hc => hin c (perm.mem_iff.mp hc)
      rw [perm.length_eq]
      omega
end
end Kw
set_option Elab.async false
set_option linter.all false
set_option maxRecDepth 100000
set_option maxHeartbeats 4000000
namespace Kw
open PySem PySem.Spec PyProof.Rows L2 Evl
/-! ### enumerate of a tuple -/
def itO (l : Addr) : Obj := { cls := .type "tuple_iterator", data := .fields #[.ref l, .int 0 0] }
def enO (i : Addr) : Obj := { cls := .type "enumerate", data := .fields #[.none, .bool false, .ref i, rawInt 0, .none, .none] }
open AutoSeq1 (wpAny_loadPart') in
theorem meets_enT (l : Addr) (xs : Array Value) (n : Nat) (dd : Option Addr) (ss : Array (Option Value)) : Meets (Builtin.«enumerate.__new__» ⟨[.type "enumerate", .ref l], []⟩)
    (fun _ R s => s.heap.get? l = some { cls := .type "tuple", dict := dd, data := .seq xs n, slots := ss } ∧ R (.ok (.ret (.ref (s.heap.push (itO l)).objs.size))) { s with heap := (s.heap.push (itO l)).push (enO s.heap.objs.size) }) := by
  refine .of_wp fun prog w A R st hyp => ?_
  obtain ⟨h0, g0, d0, t0, o0⟩ := st
  obtain ⟨ho, hR⟩ := hyp
  have sb := sub_enumerate
  have hT : Heap.IsTuple (Shared.heap ⟨h0, g0, d0, t0, o0⟩) l xs := ⟨_, ho, rfl, n, rfl⟩
  wp_walk using wpAny_loadPart' ho
  refine wpAny_stack_any fun stk => (wpAny_pure ?_)
  split
  · rename_i cc _ _ _ _ _
    cases (cc == Value.type "enumerate") <;> (wp_walk using wpAny_loadPart' ho, wpAny_pyIter_tuple hT) <;> exact ⟨_, rfl, hR⟩
  · wp_walk using wpAny_loadPart' ho, wpAny_pyIter_tuple hT
    exact (⟨_, rfl, hR⟩)
theorem call_enumT {prog : Program} {w : World} {A : Around} {E : Value → Shared → Prop} {s : Shared} {l : Addr} {xs : Array Value} {Q : Value → Shared → Prop} (hT : s.heap.IsTuple l xs)
    (h : ∀ h', IsEnum h' (s.heap.objs.size + 1) s.heap.objs.size 0 .none → h'.IsTupleIter s.heap.objs.size l 0 → (∀ b o, s.heap.get? b = some o → h'.get? b = some o) → Q (.ref (s.heap.objs.size + 1)) { s with heap := h' }) :
    wpAny (model prog w) A (call (.type "enumerate") [.ref l]) Q E s := by
  obtain ⟨⟨c, dd, dt, ss⟩, ho, hc, n, hd⟩ := hT
  cases (show c = .type "tuple" from hc)
  cases (show dt = .seq xs n from hd)
  refine callType_new F.called_enumerate (by decide) (F.typeCall_enumerate_1 _) (F.newCall_enumerate_1 _) (fun ob => F.args_object_init_2 ob _) F.entry_enumerate_new (meets_enT l xs n dd ss) ⟨ho, ?_⟩
  have z1 : (s.heap.push (itO l)).objs.size = s.heap.objs.size + 1 := Heap.size_push ..
  have he : IsEnum ((s.heap.push (itO l)).push (enO s.heap.objs.size)) (s.heap.objs.size + 1) s.heap.objs.size 0 .none := by
    have q := Heap.get?_push_size (s.heap.push (itO l)) (o := enO s.heap.objs.size) rfl
    rw [z1] at q
    exact q
  show _ ∧ _
  rw [z1]
  exact ⟨⟨_, he, rfl⟩, h _ he ⟨_, Heap.get?_push_of_some _ (Heap.get?_push_size _ rfl), rfl, rfl⟩ fun b o x => Heap.get?_push_of_some _ (Heap.get?_push_of_some _ x)⟩
/-- the tuple at a, each item in a new pair with its number -/
def IteT (K : PySem.W.Frag) (a : Addr) : It where
  go := fun i H => ∃ (xs : List V) (x : V), SqT K H a xs ∧ xs[i]? = some x
  yld := fun i H v H' => ∃ T x, v = .ref T ∧ H T = none ∧ H' = upd H T (.tup [.int (i : Nat), x]) ∧ ∀ xs, SqT K H a xs → xs[i]? = some x
  stop := fun i H => ∃ xs : List V, SqT K H a xs ∧ xs.length = i
theorem turn_enT {P : Program} {w : World} {K : PySem.W.Frag} {es : List Expr} {kk : Nat} {tp : Pos} {a e it : Addr} (n1 : e ≠ it) (n2 : a ≠ it) (n3 : e ≠ a) :
    Turn P w K (.Tuple es kk tp) (IteT K a) [e, it] e (fun i h => (∃ old, IsEnum h e it ((i : Nat) : Int) old) ∧ h.IsTupleIter it a i) where
  mem := List.mem_cons_self ..
  obj := fun i h st b hb => by
    obtain ⟨⟨old, he⟩, ⟨o, ho, _, hd⟩⟩ := st
    rcases List.mem_cons.mp hb with rfl | hb
    · exact ⟨_, he, fun v q => nomatch q⟩
    · rw [List.mem_singleton.mp hb]
      exact ⟨o, ho, fun v q => by rw [hd] at q; cases q⟩
  keep := fun i h h' st k => by
    obtain ⟨⟨old, he⟩, hi⟩ := st
    exact ⟨⟨old, k e (by simp) _ he⟩, hi.at fun o q => k it (by simp) o q⟩
  item := by
    intro X hP hw hK hc i pins s σ H E I hf st hg
    cases hP
    cases hw
    cases hK
    obtain ⟨⟨old, he⟩, hit⟩ := st
    obtain ⟨xs, x, hq, hx⟩ := hg
    obtain ⟨us, rv, p, _⟩ := I.tuple hq
    obtain ⟨u, hu, ru⟩ := rv.get hx
    have le1 : e < s.heap.objs.size := Heap.lt_size he
    have le2 : it < s.heap.objs.size := by
      obtain ⟨_, z, _⟩ := hit
      exact Heap.lt_size z
    have hlt : i < us.toArray.size := by
      have := (List.getElem?_eq_some_iff.mp hu).1
      simpa using this
    refine wpAny_pyNext_enum_itemD (Draws.tuple (A := X.A.in1) (I.ok.hd hc) it a n2 us.toArray) he ⟨hit, p⟩ hlt n1 (by simp [n1, n3]) fun y h1 tk hy ho hs hT hz hk => ?_
    have ey : y = u := by
      have : us[i]? = some y := by simpa using hy
      rw [hu] at this
      exact (Option.some.inj this).symm
    subst ey
    refine ⟨_, rfl, wpAny_letOwnedTupleGo_enum (s := { s with heap := h1, toks := tk + 1 }) ho fun h2 he2 sb => ?_⟩
    have hT2 : h2.get? s.heap.objs.size = some { cls := .type "tuple", data := .seq #[.int i tk, y] } := (sb.2 _ (Nat.ne_of_gt le1)).trans hT
    have nw : ObjOk X.prog X.w (upd H s.heap.objs.size (.tup [.int (i : Nat), x])) h2 s.heap.objs.size (.tup [.int (i : Nat), x]) := ⟨by show 2 ≤ sizeLine; decide, [.int i tk, y], .cons ⟨_, rfl⟩ (.cons ru .nil), ⟨_, hT2, rfl, _, rfl⟩⟩
    have I1 : Inv X pins σ (upd H s.heap.objs.size (.tup [.int (i : Nat), x])) { s with heap := h2, toks := tk + 1 } :=
      I.turnedNew (ch := [e, it]) (fun b ob hb q => (sb.2 b (fun z => hb (by rw [z]; simp))).trans (hk b ob (fun z => hb (by rw [z]; simp)) (fun z => hb (by rw [z]; simp)) q)) hf (Nat.le_refl _) nw
    refine ⟨.ref s.heap.objs.size, _, I1, rfl, ⟨_, x, rfl, I.hok.fresh (Nat.le_refl _), rfl, fun zs hz => by rw [I.tuple_inj hz hq]; exact hx⟩, ⟨⟨y, ?_⟩, hs.1.at fun o q => (sb.2 it (Ne.symm n1)).trans q⟩, fun b hb => ?_⟩
    · rw [show ((i + 1 : Nat) : Int) = (i : Int) + 1 by omega]
      exact he2
    · have hb' : b < s.heap.objs.size := by
        rcases List.mem_cons.mp hb with rfl | hb
        · exact le1
        · rw [List.mem_singleton.mp hb]
          exact le2
      rw [upd_ne (Nat.ne_of_lt hb')]
      exact (hf b hb).1
  done := by
    intro X hP hw hK hc i pins s σ H E I hf st hg
    cases hP
    cases hw
    cases hK
    obtain ⟨⟨old, he⟩, hit⟩ := st
    obtain ⟨xs, hq, hx⟩ := hg
    obtain ⟨us, rv, p, _⟩ := I.tuple hq
    have hz : us.toArray.size = i := by
      rw [← hx, rv.length]
      simp
    obtain ⟨f0, f1, f2, f3, f4, f5⟩ := hf it (by simp)
    exact wpAny_pyNext_enum_endD (Draws.tuple (A := X.A.in1) (I.ok.hd hc) it a n2 us.toArray) he ⟨by rw [hz]; exact hit, p⟩ fun h1 eb => ⟨rfl, I.turned (t' := s.toks) (fun b o hb q => eb b o hb q) f0 f1 f3 f4 f5⟩
  self := fun A i s Q E st h => by
    obtain ⟨⟨_, he⟩, _⟩ := st
    exact wpAny_pyIter_enum he h
def iEnT (K : PySem.W.Frag) (ta : TA) : TI := fun σ H R => ta σ H fun vs H1 => ∃ a xs, vs = [.ref a] ∧ SqT K H1 a xs ∧ R (IteT K a) H1
theorem pi_enT {X : Cx} {e : Expr} {ta : TA} {p pos tp : Pos} {es : List Expr} {kk : Nat} (hg : Gl X "enumerate") (hm : X.mg "enumerate" = none) (ha : PA X [e] ta) (hs : starEach [e] X.env = [(false, eval e X.env)] := by rfl) :
    PI X (.Tuple es kk tp) (.Call (.Name "enumerate" p) [e] [] pos) (iEnT X.K ta) := by
  refine ⟨fun pins s σ H R I h => Call_ (ld_blt I hg hm PyProof.Rows.boot_enumerate (PyProof.Rows.callWith_type1 (thn (ha.run pos pins s σ H _ I h) fun us s1 ⟨vs, H1, I1, r1, q1⟩ => ?_) hs rfl))⟩
  obtain ⟨a, xs, rfl, hq, q⟩ := q1
  cases r1 with
  | cons r rr =>
    cases rr
    cases r
    obtain ⟨us, rv, pt, _⟩ := I1.tuple hq
    obtain ⟨oa, hoa, _⟩ := id pt
    have la : a < s1.heap.objs.size := Heap.lt_size hoa
    refine call_enumT pt fun h' he hit hk => wpAny_pyIter_enum he ⟨s1.heap.objs.size + 1, [s1.heap.objs.size + 1, s1.heap.objs.size], _, _, H1, rfl, I1.kept (t' := s1.toks) hk, turn_enT (Nat.succ_ne_self _) (Nat.ne_of_lt la) (Nat.ne_of_gt (Nat.lt_succ_of_lt la)), ⟨⟨.none, he⟩, hit⟩, fun b hb => ?_, q⟩
    have hle : s1.heap.objs.size ≤ b := by
      rcases List.mem_cons.mp hb with rfl | hb
      · exact Nat.le_succ _
      · rw [List.mem_singleton.mp hb]
        exact Nat.le_refl _
    exact I1.fpOk hle (I1.hok.fresh hle)
theorem walk_enT {K : PySem.W.Frag} {a : Addr} {xs : List V} : Walk (IteT K a) xs.length (fun H => SqT K H a xs) (YPair (fun i => some (.int (i : Nat))) (fun i => xs[i]?)) where
  goes := fun i _ hi q => ⟨xs, xs[i], q, List.getElem?_eq_getElem hi⟩
  stops := fun _ q => ⟨xs, q, rfl⟩
  yields := fun i H v H' _ q y => by
    obtain ⟨T, x, h1, h2, h3, h4⟩ := y
    exact ⟨T, _, x, h1, h2, h3, rfl, h4 xs q⟩
end Kw
set_option Elab.async false
set_option linter.all false
set_option maxRecDepth 100000
set_option maxHeartbeats 4000000
namespace Kw
open PySem PySem.Spec PyProof.Rows L2 Evl
/-! ### data compared -/
def dN (ns : List Nat) : List PyData := ns.map fun (i : Nat) => PyData.int (i : Int)
def dR (rs : List (List Nat)) : List PyData := rs.map fun r => PyData.tuple (dN r)
theorem lay_dN : ∀ ns : List Nat, PyData.canLayAll0 (dN ns) = true
  | [] => by simp [dN, PyData.canLayAll0]
  | a :: r => by
    have := lay_dN r
    simp only [dN, List.map_cons, PyData.canLayAll0, PyData.canLay0, Bool.true_and] at this ⊢
    exact this
theorem depth_dN : ∀ ns : List Nat, PyData.depthAll (dN ns) ≤ 1
  | [] => by simp [dN, PyData.depthAll]
  | a :: r => by
    have := depth_dN r
    simp only [dN, List.map_cons, PyData.depthAll, PyData.depth] at this ⊢
    omega
theorem lay_dR : ∀ rs : List (List Nat), PyData.canLayAll0 (dR rs) = true
  | [] => by simp [dR, PyData.canLayAll0]
  | a :: r => by
    have := lay_dR r
    have h2 := lay_dN a
    simp only [dR, List.map_cons, PyData.canLayAll0, PyData.canLay0, Bool.and_eq_true] at this ⊢
    exact ⟨h2, this⟩
theorem depth_dR : ∀ rs : List (List Nat), PyData.depthAll (dR rs) ≤ 2
  | [] => by simp [dR, PyData.depthAll]
  | a :: r => by
    have := depth_dR r
    have h2 := depth_dN a
    simp only [dR, List.map_cons, PyData.depthAll, PyData.depth] at this ⊢
    omega
theorem shaped_lN (ns : List Nat) : SeqAt.shaped (.list (dN ns)) = true := by
  have h1 := depth_dN ns
  refine Bool.and_eq_true_iff.mpr ⟨?_, decide_eq_true ?_⟩
  · rw [PyData.canLay0]
    exact lay_dN ns
  · rw [PyData.depth]
    omega
theorem shaped_tN (ns : List Nat) : SeqAt.shaped (.tuple (dN ns)) = true := by
  have h1 := depth_dN ns
  refine Bool.and_eq_true_iff.mpr ⟨?_, decide_eq_true ?_⟩
  · rw [PyData.canLay0]
    exact lay_dN ns
  · rw [PyData.depth]
    omega
theorem shaped_lR (rs : List (List Nat)) : SeqAt.shaped (.list (dR rs)) = true := by
  have h1 := depth_dR rs
  refine Bool.and_eq_true_iff.mpr ⟨?_, decide_eq_true ?_⟩
  · rw [PyData.canLay0]
    exact lay_dR rs
  · rw [PyData.depth]
    omega
theorem eqv_dN : ∀ a b : List Nat, PyData.eqvAll (dN a) (dN b) = decide (a = b)
  | [], [] => by simp [dN, PyData.eqvAll]
  | [], _ :: _ => by simp [dN, PyData.eqvAll]
  | _ :: _, [] => by simp [dN, PyData.eqvAll]
  | x :: r, y :: t => by
    have ih := eqv_dN r t
    simp only [dN, List.map_cons, PyData.eqvAll, PyData.eqv] at ih ⊢
    rw [ih]
    by_cases h1 : x = y
    · subst h1
      by_cases h2 : r = t
      · subst h2
        simp
      · simp [h2]
    · have : ((x : Int) == (y : Int)) = false := by
        apply beq_eq_false_iff_ne.mpr
        omega
      rw [this]
      simp [h1]
theorem eqv_dR : ∀ a b : List (List Nat), PyData.eqvAll (dR a) (dR b) = decide (a = b)
  | [], [] => by simp [dR, PyData.eqvAll]
  | [], _ :: _ => by simp [dR, PyData.eqvAll]
  | _ :: _, [] => by simp [dR, PyData.eqvAll]
  | x :: r, y :: t => by
    have ih := eqv_dR r t
    have e := eqv_dN x y
    simp only [dR, List.map_cons, PyData.eqvAll, PyData.eqv] at ih ⊢
    rw [ih, e]
    by_cases h1 : x = y
    · subst h1
      by_cases h2 : r = t
      · subst h2
        simp
      · simp [h2]
    · simp [h1]
section
variable {K : PySem.W.Frag} {H H' : Hp} {σ : L2.St} {ta tb : TE}
theorem dp_nats : ∀ ns : List Nat, DpAll K H (ns.map vN) (dN ns)
  | [] => .nil
  | a :: r => .cons (.int _) (dp_nats r)
theorem dp_tups : ∀ {ys : List V} {rs : List (List Nat)}, TupsAt K H ys rs → DpAll K H ys (dR rs)
  | _, _, .nil => .nil
  | _, _, .cons h t => by
    obtain ⟨a, rfl, ha⟩ := h
    exact .cons (.tup ha (dp_nats _)) (dp_tups t)
theorem rv_eqLN {p q : Addr} {a b : List Nat} (h1 : SqL K H p (a.map vN)) (h2 : SqL K H q (b.map vN)) : RV (rEqD K) (.ref p) (.ref q) H (.bl (decide (a = b))) := fun H1 e Q k =>
  ⟨_, _, .lst (ex_l e h1) (dp_nats a), .lst (ex_l e h2) (dp_nats b), shaped_lN a, shaped_lN b, by
    rw [show PyData.eqv (.list (dN a)) (.list (dN b)) = decide (a = b) by rw [PyData.eqv, eqv_dN]]
    exact k H1 (Ex.refl H1)⟩
theorem rv_neLN {p q : Addr} {a b : List Nat} (h1 : SqL K H p (a.map vN)) (h2 : SqL K H q (b.map vN)) : RV (rNeD K) (.ref p) (.ref q) H (.bl (!decide (a = b))) := fun H1 e Q k =>
  ⟨_, _, .lst (ex_l e h1) (dp_nats a), .lst (ex_l e h2) (dp_nats b), shaped_lN a, shaped_lN b, by
    rw [show PyData.eqv (.list (dN a)) (.list (dN b)) = decide (a = b) by rw [PyData.eqv, eqv_dN]]
    exact k H1 (Ex.refl H1)⟩
theorem rv_neTN {p q : Addr} {a b : List Nat} (h1 : SqT K H p (a.map vN)) (h2 : SqT K H q (b.map vN)) : RV (rNeD K) (.ref p) (.ref q) H (.bl (!decide (a = b))) := fun H1 e Q k =>
  ⟨_, _, .tup (ex_t e h1) (dp_nats a), .tup (ex_t e h2) (dp_nats b), shaped_tN a, shaped_tN b, by
    rw [show PyData.eqv (.tuple (dN a)) (.tuple (dN b)) = decide (a = b) by rw [PyData.eqv, eqv_dN]]
    exact k H1 (Ex.refl H1)⟩
theorem rv_eqTN {p q : Addr} {a b : List Nat} (h1 : SqT K H p (a.map vN)) (h2 : SqT K H q (b.map vN)) : RV (rEqD K) (.ref p) (.ref q) H (.bl (decide (a = b))) := fun H1 e Q k =>
  ⟨_, _, .tup (ex_t e h1) (dp_nats a), .tup (ex_t e h2) (dp_nats b), shaped_tN a, shaped_tN b, by
    rw [show PyData.eqv (.tuple (dN a)) (.tuple (dN b)) = decide (a = b) by rw [PyData.eqv, eqv_dN]]
    exact k H1 (Ex.refl H1)⟩
theorem rv_neLR {p q : Addr} {ys zs : List V} {a b : List (List Nat)} (h1 : SqL K H p ys) (t1 : TupsAt K H ys a) (h2 : SqL K H q zs) (t2 : TupsAt K H zs b) : RV (rNeD K) (.ref p) (.ref q) H (.bl (!decide (a = b))) := fun H1 e Q k =>
  ⟨_, _, .lst (ex_l e h1) (dp_tups (t1.keep (KeepT.ex e))), .lst (ex_l e h2) (dp_tups (t2.keep (KeepT.ex e))), shaped_lR a, shaped_lR b, by
    rw [show PyData.eqv (.list (dR a)) (.list (dR b)) = decide (a = b) by rw [PyData.eqv, eqv_dR]]
    exact k H1 (Ex.refl H1)⟩
end
end Kw
set_option Elab.async false
set_option linter.all false
set_option maxRecDepth 100000
set_option maxHeartbeats 4000000
namespace Kw
open PySem PySem.Spec PyProof.Rows L2 Evl
section
variable {K : PySem.W.Frag} {σ : L2.St} {H H' : Hp} {ta tb tc te tl : TE} {t u : TT} {x y z v : V} {r r' : R2} {d e : PyData}
theorem rv_eqDp (h1 : Dp K H x d) (h2 : Dp K H y e) (s1 : SeqAt.shaped d = true) (s2 : SeqAt.shaped e = true) : RV (rEqD K) x y H (.bl (PyData.eqv d e)) := fun H1 e1 Q q => ⟨d, e, dp_ex e1 _ _ h1, dp_ex e1 _ _ h2, s1, s2, q H1 (Ex.refl H1)⟩
theorem rv_neDp (h1 : Dp K H x d) (h2 : Dp K H y e) (s1 : SeqAt.shaped d = true) (s2 : SeqAt.shaped e = true) : RV (rNeD K) x y H (.bl (!PyData.eqv d e)) := fun H1 e1 Q q => ⟨d, e, dp_ex e1 _ _ h1, dp_ex e1 _ _ h2, s1, s2, q H1 (Ex.refl H1)⟩
theorem lay_strs : ∀ cs : List Str, (∀ c ∈ cs, PyData.strOk c = true) → PyData.canLayAll0 (cs.map PyData.str) = true
  | [], _ => by simp [PyData.canLayAll0]
  | a :: r, h => by
    have h1 := lay_strs r fun c hc => h c (List.mem_cons_of_mem _ hc)
    have h2 := h a (List.mem_cons_self ..)
    simp only [List.map_cons, PyData.canLayAll0, PyData.canLay0, h1, h2, Bool.and_true]
theorem depth_strs : ∀ cs : List Str, PyData.depthAll (cs.map PyData.str) ≤ 1
  | [] => by simp [PyData.depthAll]
  | a :: r => by
    have := depth_strs r
    simp only [List.map_cons, PyData.depthAll, PyData.depth]
    omega
theorem shaped_lS {cs : List Str} (h : ∀ c ∈ cs, PyData.strOk c = true) : SeqAt.shaped (.list (cs.map PyData.str)) = true := by
  have := depth_strs cs
  unfold SeqAt.shaped
  rw [Bool.and_eq_true, decide_eq_true_eq]
  exact ⟨by simp only [PyData.canLay0]; exact lay_strs cs h, by simp only [PyData.depth]; omega⟩
theorem shaped_tS {cs : List Str} (h : ∀ c ∈ cs, PyData.strOk c = true) : SeqAt.shaped (.tuple (cs.map PyData.str)) = true := by
  have := depth_strs cs
  unfold SeqAt.shaped
  rw [Bool.and_eq_true, decide_eq_true_eq]
  exact ⟨by simp only [PyData.canLay0]; exact lay_strs cs h, by simp only [PyData.depth]; omega⟩
theorem strOk_low {z : Str} (h : lowB z = true) : PyData.strOk z = true := by
  unfold PyData.strOk
  rw [Array.all_eq_true_iff_forall_mem]
  intro c hc
  have := List.all_eq_true.mp h c (by simpa using hc)
  unfold low at this
  rw [Bool.and_eq_true, decide_eq_true_eq, decide_eq_true_eq] at this
  exact decide_eq_true (by omega)
theorem eqv_nilL (ds : List PyData) : PyData.eqv (.list ds) (.list []) = decide (ds = []) := by
  cases ds <;> simp [PyData.eqv, PyData.eqvAll]
theorem eqv_nilT (ds : List PyData) : PyData.eqv (.tuple ds) (.tuple []) = decide (ds = []) := by
  cases ds <;> simp [PyData.eqv, PyData.eqvAll]
theorem shaped_nilL : SeqAt.shaped (.list []) = true := by decide +kernel
theorem shaped_nilT : SeqAt.shaped (.tuple []) = true := by decide +kernel
/-- a tuple of what is asked, new or old -/
theorem ep_catA {a : Addr} {xs ys : List V} (ha : Ev ta σ H (.ref a)) (hx : SqT K H a xs) (hb : EvU tb σ H ys) (hn : xs.length + ys.length ≤ 100000) : EvP (tOp (rCatA K) ta tb) σ H (IsT K (xs ++ ys)) := fun H1 e Q q =>
  ha H1 e _ fun H2 e2 => hb H2 (e.trans e2) _ fun b H3 nb e3 hb3 => by
    have hx3 := ex_t ((e.trans e2).trans e3) hx
    refine ⟨a, b, xs, ys, rfl, rfl, hx3, st_of hb3, sz_of hn, fun h => ?_, fun h h' => ?_, fun h h' p hp => ?_⟩
    · subst h
      exact q _ H3 (e2.trans e3) ⟨b, rfl, st_of hb3⟩
    · subst h'
      exact q _ H3 (e2.trans e3) ⟨a, rfl, by rw [List.append_nil]; exact hx3⟩
    · exact q _ _ ((e2.trans e3).trans (Ex.new hp)) ⟨p, rfl, st_of upd_same⟩
end
end Kw
set_option Elab.async false
set_option linter.all false
set_option maxRecDepth 100000
/-! several clauses 'except K as n', all with the same name n, in slot j -/
namespace KwX
open PySem PySem.Spec PyProof.Rows L2
abbrev Cl := Value × (Addr → Value → Option Addr → TS)
/-- the ends of a suite behind which slot j is empty again -/
def goneE (j : Nat) (D : Ends) : Ends := ⟨fun τ G => D.nx (τ.set j none) G, D.rt, fun τ G => D.bk (τ.set j none) G, fun τ G => D.ct (τ.set j none) G⟩
def wAsM (K : PySem.W.Frag) (j : Nat) (Wo : WX) (D : Ends) : List Cl → WX
  | [] => Wo
  | (kc, tz) :: more => fun cls d τ G => ∃ yes, PySem.W.exmOne K cls kc = some yes ∧ (yes = true → ∀ e, G e = none → tz e cls d (goneE j D) (τ.set j (some (.ref e))) G) ∧ (yes = false → wAsM K j Wo D more cls d τ G)
inductive HdsAs (X : Cx) (n : Str) : List ExceptHandler → List Cl → Prop
  | nil : HdsAs X n [] []
  | cons {y : Str} {kc : Value} {tz : Addr → Value → Option Addr → TS} {first : Stmt} {rest : List Stmt} {p1 p2 : Pos} {hds : List ExceptHandler} {l : List Cl} (nm : Names X y kc)
      (su : ∀ (e : Addr) (ob : Obj) (cls : Value) (d : Option Addr) (pp : List (Addr × Obj)), L2N.Zn cls d ob → (∃ fs, ob.data = .fields fs) → PSs (X.suite e ((e, ob) :: pp)) (first :: rest) (tz e cls d)) (more : HdsAs X n hds l) :
      HdsAs X n (.ExceptHandler (some (.Name y p1)) (some n) (first :: rest) p2 :: hds) ((kc, tz) :: l)
section
variable {X : Cx} {n : Str} {j : Nat} {body : List Stmt} {h1 : ExceptHandler} {hds : List ExceptHandler} {l : List Cl} {pos : Pos} {tb : WX → TS} {Wo : WX}
theorem ps_try_asM (stk : X.stack = X.env :: X.outer) (frm : X.env.frame = some X.env.locals) (nd : X.N.Nodup) (at_ : X.N[j]? = some n) (loc : X.env.kindOf n = some .local) (tk : L2N.Takes X Wo)
    (hb : ∀ (W : WX) (pp : List (Addr × Obj)) (xe : Value → Shared → Prop), L2N.Takes (X.tr pp xe) W → PassesOwn (model X.prog X.w) X.A X.env xe → PSs (X.tr pp xe) body (tb W))
    (hh : HdsAs X n (h1 :: hds) l) : PS X (.Try body (h1 :: hds) [] [] pos) (fun D σ H => tb (wAsM X.K j Wo D l) D σ H) := by
  constructor
  intro pins s0 σ0 H0 D I want
  have okX := I.ok
  have frs_ : X.A.frames = some (X.env :: X.outer) := okX.frames.trans (congrArg some stk)
  have locN : Loc X.env.scope n := Or.inl loc
  apply wpAny_Try_except
  have run := (hb (wAsM X.K j Wo D l) (X.pn ++ pins) (fun ev sa => wpAny (model X.prog X.w) X.A (noteFrame ev X.env) (fun _ sb => wpAny (model X.prog X.w) X.A (setFlight ev none) (fun _ sc => wpAny (model X.prog X.w) X.A (handleBy ev X.env (h1 :: hds)) (SP X pins D) X.xe sc) X.xe sb) X.xe sa) ?caught PassesOwn.looking).run [] s0 σ0 H0 D (I.toTry _) want
  case caught =>
    intro ev st told
    obtain ⟨e, Bd, sI, pins1, τ, G, cls, d, rfl, Jt, ltB, up0, sky0, freeE, sameO, agree, wish⟩ := told
    have J : Inv X pins τ G sI := Jt.ofTry okX
    have sky1 : Sky Bd (X.env :: X.outer) e (L2N.Zn cls d) X.env.locals st.heap := stk ▸ sky0
    change wpAny (model X.prog X.w) X.A (noteFrame (.ref e) X.env) _ _ _
    refine L2N.Sky.land L2N.Zn.steady frs_ frm sky1 fun hp3 land3 up3 => ?_
    have J3 : Inv X pins τ G { st with heap := hp3 } := J.landed ltB land3.1 (up0.trans up3) sameO agree
    obtain ⟨ob3, fs3, get3, zc3, dat3⟩ := land3.there
    have notIn : e ∉ frs (X.env :: X.outer) := by
      intro hm
      obtain ⟨_, ob', get', nof⟩ := land3.2.2.1.mem hm
      rw [get3] at get'
      cases get'
      exact nof _ dat3
    have neL : e ≠ X.env.locals := by
      intro z
      exact notIn (List.mem_filterMap.mpr ⟨X.env, List.mem_cons_self, by rw [frm, z]⟩)
    have niF : e ∉ X.fs := by
      intro hm
      obtain ⟨en, hen, q⟩ := List.mem_filterMap.mp hm
      exact notIn (List.mem_filterMap.mpr ⟨en, List.mem_cons_of_mem _ hen, q⟩)
    have S3 := J3.suite get3 dat3 freeE neL niF
    have each : ∀ {cs : List ExceptHandler} {m : List Cl}, HdsAs X n cs m → wAsM X.K j Wo D m cls d τ G → wpAny (model X.prog X.w) X.A (handleBy (.ref e) X.env cs) (SP X pins D) X.xe { st with heap := hp3 } := by
      intro cs m hk
      induction hk with
      | nil =>
        intro hw
        apply wpAny_handleBy_nil
        obtain ⟨_, _, _, ob, fs, T, _, _, get, _, dat, first, _⟩ := id land3
        unfold PySem.passOn
        refine wpAny_bind (wpAny_field get dat first ?_)
        rw [if_neg (show ¬ ((Value.ref T == Value.none) = true) by simp)]
        have out : wpAny (model X.prog X.w) X.A (setFlight (.ref e) X.env.frame) (fun _ sd => wpAny (model X.prog X.w) X.A (throw (.ref e) : Sem Flow) (SP X pins D) X.xe sd) X.xe { st with heap := hp3 } := by
          rw [frm]
          refine HandSPX.setFlight_upZ land3 fun hp4 sk4 up4 => wpAny_throw (tk _ _ ⟨e, Bd, sI, pins, τ, G, cls, d, rfl, J, ltB, (up0.trans up3).trans up4, .inr (.inr (by rw [stk]; exact sk4)), freeE, sameO, agree, hw⟩)
        first
          | exact wpAny_bind (wpAny_pure (wpAny_bind out))
          | exact wpAny_bind out
      | @cons y kc tz fst rst p1 p2 hds2 l2 nm su more ih =>
        intro hw
        obtain ⟨yes, hy, hw1, hw0⟩ := hw
        refine wpAny_handleBy_cons (codeAny_handlers_test ?_) (by intro q; cases q)
        have looks : PySem.W.Looks (model X.prog X.w) hp3 (typeOf (.ref e)) cls := fun A Q E sx kx q => wpAny_typeOf_ref (kx _ _ get3) (by rw [zc3.1]; exact q)
        have matches_ := PySem.W.exm_one (M := model X.prog X.w) J3.kIn looks hy
        have named : ∀ {Q : Value → Shared → Prop} {E : Value → Shared → Prop}, Q kc { st with heap := hp3 } → wpAny (model X.prog X.w) (X.A.mark (some (.ref e))) (eval (.Name y p1) X.env) Q E { st with heap := hp3 } := by
          intro Q E q
          obtain ⟨hg, hdbg, hm⟩ := nm
          rcases hm with hm | ⟨hm, hv, hnn⟩
          · exact ld_glob (X := X.suite e ((e, ob3) :: (X.pn ++ pins))) S3 hg hm q hdbg
          · exact ld_blt (X := X.suite e ((e, ob3) :: (X.pn ++ pins))) S3 hg hm hv q hnn hdbg
        refine named (matches_.here ?_)
        cases yes with
        | false =>
          change wpAny _ X.A (handleBy (.ref e) X.env hds2) _ _ _
          exact ih (hw0 rfl)
        | true =>
          refine codeAny_handlers_suite_as ?_
          refine HandSPX.lands_againZ land3 fun hp4 land4 up4 => ?_
          have J4 : Inv X pins τ G { st with heap := hp4 } := J.landed ltB land4.1 ((up0.trans up3).trans up4) sameO agree
          obtain ⟨ob4, fs4, get4, zc4, dat4⟩ := land4.there
          have S4 := J4.suite get4 dat4 freeE neL niF
          refine store_ok (X := X.suite e ((e, ob4) :: (X.pn ++ pins))) (v := .ref e) S4 nd at_ locN rfl (fun s5 S5 => ?_) (.inr loc)
          refine wpAny_mono ((su e ob4 cls d (X.pn ++ pins) zc4 ⟨_, dat4⟩).run [] s5 _ G _ S5 (hw1 rfl e freeE)) (fun fl s6 sp => ?_) (fun _ _ z => False.elim z)
          have done_ : ∀ {τ6 : L2.St} {G6 : Hp} {R : Shared → Prop}, Inv (X.suite e ((e, ob4) :: (X.pn ++ pins))) [] τ6 G6 s6 → (∀ s7, Inv X pins (τ6.set j none) G6 s7 → R s7) →
              wpAny (model X.prog X.w) X.A (do bindName X.env n .none; unbindBehindTheSuite X.env n p2) (fun _ s7 => R s7) X.xe s6 := fun {τ6 G6 R} S6 hR => gone_ok (S6.unsuite okX) nd at_ loc hR
          cases fl with
          | next =>
            obtain ⟨τ6, G6, S6, q6⟩ := sp
            exact done_ S6 fun s7 J7 => ⟨_, _, J7, q6⟩
          | brk =>
            obtain ⟨τ6, G6, S6, q6⟩ := sp
            exact done_ S6 fun s7 J7 => ⟨_, _, J7, q6⟩
          | cont =>
            obtain ⟨τ6, G6, S6, q6⟩ := sp
            exact done_ S6 fun s7 J7 => ⟨_, _, J7, q6⟩
          | ret u =>
            obtain ⟨v6, τ6, G6, S6, r6, q6⟩ := sp
            exact done_ S6 fun s7 J7 => ⟨_, _, _, J7, r6, q6⟩
    exact each hh wish
  refine wpAny_mono run (fun fl s1 sp => ?_) (fun ev s1 he => he)
  cases fl with
  | next =>
    obtain ⟨τ, G, J1, q⟩ := sp
    exact wpAny_execs_nil ⟨τ, G, J1.ofTry okX, q⟩
  | brk =>
    obtain ⟨τ, G, J1, q⟩ := sp
    exact ⟨τ, G, J1.ofTry okX, q⟩
  | cont =>
    obtain ⟨τ, G, J1, q⟩ := sp
    exact ⟨τ, G, J1.ofTry okX, q⟩
  | ret u =>
    obtain ⟨v, τ, G, J1, r, q⟩ := sp
    exact ⟨v, τ, G, J1.ofTry okX, r, q⟩
end
end KwX
set_option Elab.async false
set_option linter.all false
set_option maxRecDepth 100000
set_option maxHeartbeats 2000000
/-! the end of a walk while an exception is handled: lists, tuples, tuples unpacked -/
namespace KwX
open PySem PySem.Spec PyProof.Rows L2 HotX L2H
section
variable {prog : Program} {w : World} {A : Around} {E : Value → Shared → Prop} {s : Shared}
theorem list_end_hot {it l hx : Addr} {i : Nat} {items : Array Value} {Q : Option Value → Shared → Prop} (hot : HotAt A hx s.heap) (dif : hx ≠ it) (hit : s.heap.IsListIter it l i) (hl : s.heap.IsList l items) (out : items[i]? = none)
    (hQ : ∀ h', Heap.ExtBut it s.heap h' → Q none { s with heap := h' }) : wpAny (model prog w) A (pyNext (.ref it)) Q E s := by
  have hit' := hit
  obtain ⟨io, gi, ci, di⟩ := hit'
  obtain ⟨lo, gl, _, nl, dl⟩ := hl
  obtain ⟨hand, ho, hv, gh, dh, ch⟩ := hot
  unfold pyNext
  refine wpAny_bind (wpAny_attempt (wpAny_callSpecial?_slot (name := Str.ofString "__next__") hit.typeIs slot_listiter_next (wpAny_call_entry slot_listiter_next hit.typeIs entry_listiter_next ?_ (args_listiter_next _))))
  change wpAny _ _ (field (.ref it) 0 >>= _) _ _ s
  apply wpAny_bind
  refine wpAny_field gi di (x := .ref l) rfl ?_
  change wpAny _ _ (if (Value.ref l == Value.none) = true then _ else _) _ _ s
  have notNone : ¬ ((Value.ref l == Value.none) = true) := Bool.false_ne_true
  rw [if_neg notNone]
  change wpAny _ _ (field (.ref it) 1 >>= _) _ _ s
  apply wpAny_bind
  refine wpAny_field gi di (x := .int i 0) rfl ?_
  change wpAny _ _ (seqItems? (.ref l) >>= _) _ _ s
  apply wpAny_bind
  refine wpAny_seqItems gl dl ?_
  simp only [Int.toNat_natCast, out]
  refine wpAny_bind (wpAny_rule (wpAny_bind (wpAny_setField gi di (by simp) ?_)))
  change wpAny _ _ (newExc (.type "StopIteration") [] >>= _) _ _ _
  apply wpAny_bind
  simp only [newExc, newTuple]
  apply wpAny_bind
  refine wpAny_newObj_type ?_ (by size_fits)
  refine wpAny_bind (m := firstArgMember _ _) (wpAny_of_eq (a := Value.none) (by first | rfl | (simp only [firstArgMember]; rfl)) ?_)
  refine wpAny_newObj_type ?_ (by size_fits)
  have sb := Heap.SameBut.update s.heap it (Obj.mapFields (·.setIfInBounds 0 .none))
  refine raiseNew_hot ⟨hand, ho, hv, Heap.get?_push_of_some _ (Heap.get?_push_of_some _ ((sb.2 hx dif).trans gh)), dh, ch⟩ ?_ (Heap.get?_push_size _ rfl) rfl (by first | (simp; done) | (simp; omega) | (simp only [Array.size_append]; simp; omega)) ?_
  · exact Nat.ne_of_lt (Heap.lt_size (Heap.get?_push_of_some _ ((sb.2 hx dif).trans gh)))
  refine wpAny_bind (wpAny_isInstance (T := "StopIteration") (b := true) ⟨_, Heap.get?_update_self _ (Heap.get?_push_size _ rfl) rfl, rfl⟩ isSubtype_stop ?_)
  refine wpAny_pure (hQ _ fun b o nb e => ?_)
  have e1 := Heap.get?_push_of_some { cls := .type "tuple", data := .seq #[] } ((sb.2 b nb).trans e)
  rw [Heap.get?_update_other _ _ (Nat.ne_of_gt (Heap.lt_size e1))]
  exact Heap.get?_push_of_some _ e1
theorem tup_end_hot {it l hx : Addr} {i : Nat} {items : Array Value} {Q : Option Value → Shared → Prop} (hot : HotAt A hx s.heap) (dif : hx ≠ it) (hit : IsTupIter s.heap it l i) (hl : IsTup s.heap l items) (out : items[i]? = none)
    (hQ : ∀ h', Heap.ExtBut it s.heap h' → Q none { s with heap := h' }) : wpAny (model prog w) A (pyNext (.ref it)) Q E s := by
  have hit' := hit
  obtain ⟨io, gi, ci, di⟩ := hit'
  obtain ⟨lo, gl, _, nl, dl⟩ := hl
  obtain ⟨hand, ho, hv, gh, dh, ch⟩ := hot
  unfold pyNext
  refine wpAny_bind (wpAny_attempt (wpAny_callSpecial?_slot (name := Str.ofString "__next__") hit.typeIs slot_tupleiter_next (wpAny_call_entry slot_tupleiter_next hit.typeIs entry_tupleiter_next ?_ (args_tupleiter_next _))))
  change wpAny _ _ (field (.ref it) 0 >>= _) _ _ s
  apply wpAny_bind
  refine wpAny_field gi di (x := .ref l) rfl ?_
  change wpAny _ _ (if (Value.ref l == Value.none) = true then _ else _) _ _ s
  have notNone : ¬ ((Value.ref l == Value.none) = true) := Bool.false_ne_true
  rw [if_neg notNone]
  change wpAny _ _ (field (.ref it) 1 >>= _) _ _ s
  apply wpAny_bind
  refine wpAny_field gi di (x := .int i 0) rfl ?_
  change wpAny _ _ (seqItems? (.ref l) >>= _) _ _ s
  apply wpAny_bind
  refine wpAny_seqItems gl dl ?_
  simp only [Int.toNat_natCast, out]
  refine wpAny_bind (wpAny_rule (wpAny_bind (wpAny_setField gi di (by simp) ?_)))
  change wpAny _ _ (newExc (.type "StopIteration") [] >>= _) _ _ _
  apply wpAny_bind
  simp only [newExc, newTuple]
  apply wpAny_bind
  refine wpAny_newObj_type ?_ (by size_fits)
  refine wpAny_bind (m := firstArgMember _ _) (wpAny_of_eq (a := Value.none) (by first | rfl | (simp only [firstArgMember]; rfl)) ?_)
  refine wpAny_newObj_type ?_ (by size_fits)
  have sb := Heap.SameBut.update s.heap it (Obj.mapFields (·.setIfInBounds 0 .none))
  refine raiseNew_hot ⟨hand, ho, hv, Heap.get?_push_of_some _ (Heap.get?_push_of_some _ ((sb.2 hx dif).trans gh)), dh, ch⟩ ?_ (Heap.get?_push_size _ rfl) rfl (by first | (simp; done) | (simp; omega) | (simp only [Array.size_append]; simp; omega)) ?_
  · exact Nat.ne_of_lt (Heap.lt_size (Heap.get?_push_of_some _ ((sb.2 hx dif).trans gh)))
  refine wpAny_bind (wpAny_isInstance (T := "StopIteration") (b := true) ⟨_, Heap.get?_update_self _ (Heap.get?_push_size _ rfl) rfl, rfl⟩ isSubtype_stop ?_)
  refine wpAny_pure (hQ _ fun b o nb e => ?_)
  have e1 := Heap.get?_push_of_some { cls := .type "tuple", data := .seq #[] } ((sb.2 b nb).trans e)
  rw [Heap.get?_update_other _ _ (Nat.ne_of_gt (Heap.lt_size e1))]
  exact Heap.get?_push_of_some _ e1
theorem HotAt.past {hx b : Addr} {h h' : Heap} (k : HotAt A hx h) (n : hx ≠ b) (e : Heap.ExtBut b h h') : HotAt A hx h' := by
  obtain ⟨k1, o, vs, k2, k3, k4⟩ := k
  exact ⟨k1, o, vs, e hx o n k2, k3, k4⟩
theorem HotAt.lt {hx : Addr} {h : Heap} (k : HotAt A hx h) : hx < h.objs.size := by
  obtain ⟨_, _, _, k2, _⟩ := k
  exact Heap.lt_size k2
theorem unpackItems_hot {t hx : Addr} {items : Array Value} {Q : List Value → Shared → Prop} (hot : HotAt A hx s.heap) (ht : IsTup s.heap t items) (hQ : ∀ h', Heap.ExtBut s.heap.objs.size s.heap h' → Q items.toList { s with heap := h' }) :
    wpAny (model prog w) A (unpackItems (.ref t) items.size none) Q E s := by
  have tlt : t ≠ s.heap.objs.size := Nat.ne_of_lt ht.lt
  have xlt : hx ≠ s.heap.objs.size := Nat.ne_of_lt (HotAt.lt hot)
  unfold unpackItems
  apply wpAny_bind
  unfold notIterableAtAll
  apply wpAny_bind
  refine wpAny_specialOf ht.typeIs slot_tuple_iter.lookup ?_
  apply wpAny_pure
  simp only [Bool.false_eq_true, if_false]
  apply wpAny_bind
  refine wpAny_holding (iter_tuple ht ?_)
  apply wpAny_bind
  refine wpAny_holding (draw_tuple tlt items.size 0 _ _ ⟨_, Heap.get?_push_size _ rfl, rfl, rfl⟩ (ht.push _) (by omega) fun hp1 it1 same1 => ?_)
  have whole : List.take items.size (List.drop 0 items.toList) = items.toList := by
    rw [List.drop_zero]
    exact List.take_of_length_le (Nat.le_of_eq (by simp))
  rw [whole, if_neg (by simp)]
  have tup1 : IsTup hp1 t items := (ht.push _).extBut same1.extBut tlt
  have hot0 : HotAt A hx (s.heap.push { cls := .type "tuple_iterator", data := .fields #[.ref t, .int 0 0] }) := by
    obtain ⟨k1, o, vs, k2, k3, k4⟩ := hot
    exact ⟨k1, o, vs, Heap.get?_push_of_some _ k2, k3, k4⟩
  apply wpAny_bind
  refine wpAny_holding (tup_end_hot (HotAt.past hot0 xlt same1.extBut) xlt it1 tup1 (by simp) fun hp2 ext2 => ?_)
  simp only [Option.isSome_none, Bool.false_eq_true, if_false]
  exact wpAny_pure (hQ hp2 fun b o nb e => ext2 b o nb (same1.extBut b o nb (Heap.get?_push_of_some _ e)))
theorem assign_tup_hot {env : Env} {elts : List Expr} {k1} {pos : Pos} {t hx : Addr} {items : Array Value} {Q : Unit → Shared → Prop} (hot : HotAt A hx s.heap) (ht : IsTup s.heap t items) (hn : (assignEach elts env).length = items.size) (hstar : (assignEach elts env).findIdx? (·.1) = none)
    (h : ∀ h', Heap.ExtBut s.heap.objs.size s.heap h' → wpAny (model prog w) A (assignInOrder ((assignEach elts env).map (·.2)) items.toList) Q E { s with heap := h' }) : wpAny (model prog w) A (assign (.Tuple elts k1 pos) env (.ref t)) Q E s := by
  rw [assign_Tuple]
  refine wpAny_bind (wpAny_standAt ?_)
  unfold unpack
  rw [hn, hstar]
  exact wpAny_bind (wpAny_holding (unpackItems_hot hot ht h))
end
section
variable {X : Cx} {tg : Expr}
/-- (a, ..) as a target, while an exception is handled -/
theorem pg_tupH {es : List Expr} {kk : Nat} {pos : Pos} {t : TGs} {n : Nat} (hc : HotC X) (h : PGs X es t) (hn : (assignEach es X.env).length = n := by rfl) (hst : (assignEach es X.env).findIdx? (·.1) = none := by rfl) : PG X (.Tuple es kk pos) (gTup X.K n t) := by
  constructor
  intro pins s σ H v u Q I r want
  obtain ⟨a, xs, rfl, sq, len, more⟩ := want
  cases r
  obtain ⟨x1, hot⟩ := hc.at I
  obtain ⟨its, rv, tup, _⟩ := I.tuple sq
  refine assign_tup_hot hot tup (by simp [hn, ← len, rv.length]) hst fun hp ext => ?_
  have I1 : Inv X pins σ H { s with heap := hp } := I.kept (t' := s.toks) fun b o e => ext b o (Nat.ne_of_lt (Heap.lt_size e)) e
  exact h.run pins _ σ H xs _ Q I1 (by simpa using rv) more
theorem turn_listH {P : Program} {w : World} {K : PySem.W.Frag} (a it : Addr) : TurnH P w K tg (Itl K a) [it] it (fun i h => h.IsListIter it a i) where
  mem := (turn_list (P := P) (w := w) (K := K) (tg := tg) a it).mem
  obj := (turn_list (P := P) (w := w) (K := K) (tg := tg) a it).obj
  keep := (turn_list (P := P) (w := w) (K := K) (tg := tg) a it).keep
  self := (turn_list (P := P) (w := w) (K := K) (tg := tg) a it).self
  item := by
    rintro X rfl rfl rfl hc i pins s σ H E I free at_ ⟨xs, x, sq, hx⟩
    obtain ⟨its, rv, p, _⟩ := I.list sq
    obtain ⟨u, hu, ru⟩ := rv.get hx
    obtain ⟨g0, g1, g2, g3, g4, g5⟩ := free it (List.mem_singleton.mpr rfl)
    refine wpAny_pyNext_list_item at_ p.isList (x := u) (by simpa using hu) fun hp at1 sb => ?_
    have I1 : Inv X pins σ H { s with heap := hp } := I.turned (t' := s.toks) (fun b o nb e => (sb.2 b nb).trans e) g0 g1 g3 g4 g5
    have at2 := at1
    obtain ⟨o, e, c, d⟩ := at2
    exact ⟨u, rfl, go_of (s := { s with heap := hp }) e c d (by decide) ⟨x, H, I1, ru, ⟨rfl, fun ys hy => by rw [I.list_inj hy sq]; exact hx⟩, at1, fun b hb => (free b hb).1⟩⟩
  done := by
    rintro X rfl rfl rfl hc i pins s σ H E I free at_ ⟨xs, sq, hx⟩
    obtain ⟨its, rv, p, _⟩ := I.list sq
    obtain ⟨g0, g1, g2, g3, g4, g5⟩ := free it (List.mem_singleton.mpr rfl)
    have len := rv.length
    obtain ⟨q, hq1, hq2⟩ := hc
    obtain ⟨hd, vs, dv, cv⟩ := hq1
    have hot : HotAt X.A q.1 s.heap := ⟨hd, q.2, vs, (I.pin q (List.mem_append_left _ hq2)).1, dv, cv⟩
    have dif : q.1 ≠ it := g5 q (List.mem_append_left _ hq2)
    exact list_end_hot hot dif at_ p.isList (by simp; omega) fun hp ext => ⟨rfl, I.turned (t' := s.toks) (fun b o nb e => ext b o nb e) g0 g1 g3 g4 g5⟩
end
end KwX
set_option Elab.async false
set_option linter.all false
set_option maxRecDepth 100000
set_option maxHeartbeats 4000000
/-! a list comprehension while an exception is handled -/
namespace KwX
open PySem PySem.Spec PyProof.Rows L2 HotX L2H
/-- the context of the block, which still bears what is pinned -/
abbrev blkH (X : Cx) (s : Shared) (H : Hp) (scope : Scope) (cenv : Env) (fp : List Addr) : Cx := (X.blk s H scope cenv fp).tr X.pn (fun _ _ => False)
section
variable {X : Cx} {tg : Expr}
theorem pi_listH {l : Expr} {tl : TE} (hl : PE X l tl) : PIH X tg l (iList X.K tl) := by
  constructor
  intro pins s σ H R I want
  refine thn (hl.run pins s σ H _ I want) fun v s1 got => ?_
  obtain ⟨x, H1, I1, rel, a, rfl, ⟨xs, sq⟩, more⟩ := got
  cases rel
  obtain ⟨its, rv, p, _⟩ := I1.list sq
  refine wpAny_pyIter_list p.isList ?_
  have I2 := I1.kept (t' := s1.toks) (h' := s1.heap.push { cls := .type "list_iterator", data := .fields #[.ref a, .int 0 0] }) fun b o e => Heap.get?_push_of_some _ e
  exact ⟨s1.heap.objs.size, [s1.heap.objs.size], _, _, H1, rfl, I2, turn_listH a _, ⟨_, Heap.get?_push_size _ rfl, rfl, rfl⟩, fun b hb => by
    cases List.mem_singleton.mp hb
    exact I1.fpOk (Nat.le_refl _) (I1.hok.fresh (Nat.le_refl _)), more⟩
theorem blockH {pins : List (Addr × Obj)} {σ : L2.St} {H : Hp} {s : Shared} {scope : Scope} {own : List (Str × Nat)} {fp : List Addr} (I : Inv X pins σ H s) (ok : BlkOk X.N X.env.scope scope own) (nd : X.N.Nodup) (hfp : ∀ b ∈ fp, FpOk X pins H b ∧ b < s.heap.objs.size) :
    Inv (blkH X s H scope (compEnvC scope (cellsFrom (s.heap.objs.size + 1) scope.names (cloFrom X.env.cells scope.names [])) s.heap.objs.size X.env) fp) [] (wipe σ (own.map (·.2))) H { s with heap := pushCells (s.heap.push { cls := .type "dict", data := .dict #[] }) scope.names } := by
  have J := block_start I ok nd hfp
  refine ⟨J.ok.toTry _ _, J.os, J.bare, J.base, J.loc, J.cell, J.free, J.freeC, fun p hp => ?_, J.hok, J.len⟩
  have hp' : p ∈ X.pn := by
    have : p ∈ X.pn ++ [] := hp
    rw [List.append_nil] at this
    exact this
  obtain ⟨g1, g2, g3, g4, g5⟩ := I.pin p (List.mem_append_left _ hp')
  refine ⟨pushCells_keeps _ _ _ _ (Heap.get?_push_of_some _ g1), g2, Nat.ne_of_lt (Heap.lt_size g1), fun z => ?_, g5⟩
  rcases List.mem_cons.mp (I.stkSub _ z) with e | e
  · exact g3 e
  · exact g4 e
end
end KwX
set_option Elab.async false
set_option linter.all false
set_option maxRecDepth 100000
set_option maxHeartbeats 4000000
namespace KwX
open PySem PySem.Spec PyProof.Rows L2 HotX L2H
section
variable {X : Cx}
/-- [elt for tg in iter if ..] as a value, while an exception is handled -/
theorem pe_lcH {elt tg iter : Expr} {ifs : List Expr} {scope : Scope} {own : List (Str × Nat)} {pos : Pos} {wi : TI} {g : TG} {tt : TT} {te : TE} (hc : HotC X) (nd : X.N.Nodup) (hi : PIH X tg iter wi) (ok : BlkOk X.N X.env.scope scope own)
    (hg : ∀ (s : Shared) (H : Hp) (C : Addr) (cl : List (Str × Addr)) (fp : List Addr), PG (blkH X s H scope (compEnvC scope cl C X.env) fp) tg g) (ht : ∀ (s : Shared) (H : Hp) (C : Addr) (cl : List (Str × Addr)) (fp : List Addr), PTs (blkH X s H scope (compEnvC scope cl C X.env) fp) ifs tt)
    (he : ∀ (s : Shared) (H : Hp) (C : Addr) (cl : List (Str × Addr)) (fp : List Addr), PE (blkH X s H scope (compEnvC scope cl C X.env) fp) elt te) (hs : ∀ x, foldedSetIterable iter X.env x = pure x := by intro _; rfl) :
    PE X (.ListComp elt [⟨tg, iter, ifs, 0⟩] scope pos) (tLc wi g tt te (own.map (·.2))) := by
  constructor
  intro pins s0 σ H0 Q I want
  rw [eval_ListComp]
  have caught : ∀ y ∈ scope.names, y.2 = .free → ∃ c, X.env.cells.lookup y.1 = some c := by
    intro y hy e
    rcases ok.free y hy e with k | k
    · exact I.ok.has _ (.inl k)
    · exact I.ok.has _ (.inr k)
  refine wpAny_comprehension_free (use := none) rfl hs (closure_ok caught) ok.kind (fun y hy e => by rw [ok.uniq y hy, e]) (thn (hi.run pins s0 σ H0 _ I want) fun xv sa ha => thn ha fun itv sb hb => ?_)
  obtain ⟨it, fp, tn, J, Hb, rfl, Ib, T, tn0, free0, goal⟩ := hb
  refine wpAny_newObj_type (newEnv_comp ?_) (by show 0 ≤ sizeLine; decide)
  have newD : Hb sb.heap.objs.size = none := Ib.hok.fresh (Nat.le_refl _)
  obtain ⟨W, ⟨m0, w0⟩, turn⟩ := goal sb.heap.objs.size newD
  generalize eL : sb.heap.objs.size = L at newD w0 turn ⊢
  generalize eC : ({ sb with heap := sb.heap.push { cls := .type "list", data := .seq ([] : List Value).toArray } } : Shared) = sc
  have hpC : sc.heap = sb.heap.push { cls := .type "list", data := .seq ([] : List Value).toArray } := by rw [← eC]
  have Ic : Inv X pins σ (upd Hb L (.lst [])) sc := by
    rw [← eC]
    refine Ib.laid (t' := sb.toks) (fun b o e => Heap.get?_push_of_some _ e) (Nat.le_of_eq eL) ⟨Nat.zero_le _, [], 0, .nil, ?_⟩
    rw [← eL]
    exact Heap.get?_push_size _ rfl
  have small : ∀ b ∈ fp, b < sb.heap.objs.size := by
    intro b hb
    obtain ⟨o, e, _⟩ := T.obj _ _ tn0 b hb
    exact Heap.lt_size e
  have freeC : ∀ b ∈ fp, FpOk X pins (upd Hb L (.lst [])) b ∧ b < sc.heap.objs.size := by
    intro b hb
    have lt := small b hb
    refine ⟨⟨?_, (free0 b hb).2⟩, by rw [hpC, Heap.size_push]; exact Nat.lt_succ_of_lt lt⟩
    rw [upd_ne (by rw [← eL]; exact Nat.ne_of_lt lt)]
    exact (free0 b hb).1
  have tnC : tn 0 sc.heap := T.keep _ _ _ tn0 fun b _ o e => by
    rw [hpC]
    exact Heap.get?_push_of_some _ e
  have Id := blockH Ic ok nd freeC
  have pg := hg sc (upd Hb L (.lst [])) sc.heap.objs.size (cellsFrom (sc.heap.objs.size + 1) scope.names (cloFrom X.env.cells scope.names [])) fp
  have pt := ht sc (upd Hb L (.lst [])) sc.heap.objs.size (cellsFrom (sc.heap.objs.size + 1) scope.names (cloFrom X.env.cells scope.names [])) fp
  have pe := he sc (upd Hb L (.lst [])) sc.heap.objs.size (cellsFrom (sc.heap.objs.size + 1) scope.names (cloFrom X.env.cells scope.names [])) fp
  have none0 : ∀ b ∈ fp, (upd Hb L (.lst [])) b = none := fun b hb => (freeC b hb).1.1
  change codeAny _ _ (.compStart (.ListComp elt [⟨tg, iter, ifs, 0⟩] scope pos) 0 (.ref it) (.ref L) (compEnvC scope (cellsFrom (sc.heap.objs.size + 1) scope.names (cloFrom X.env.cells scope.names [])) sc.heap.objs.size X.env)) (compPost (model X.prog X.w) X.A X.xe none _ (.ref L) sc.heap.objs.size) { sc with heap := pushCells (sc.heap.push { cls := .type "dict", data := .dict #[] }) scope.names }
  generalize eE : compEnvC scope (cellsFrom (sc.heap.objs.size + 1) scope.names (cloFrom X.env.cells scope.names [])) sc.heap.objs.size X.env = ce at Id pg pt pe ⊢
  have locE : ce.locals = sc.heap.objs.size := by
    subst eE
    rfl
  generalize eH : upd Hb L (.lst []) = Hc at Ic Id pg pt pe w0 none0 freeC
  generalize eS : ({ sc with heap := pushCells (sc.heap.push { cls := .type "dict", data := .dict #[] }) scope.names } : Shared) = sd at Id ⊢
  have tnD : tn 0 sd.heap := T.keep _ _ _ tnC fun b _ o e => by
    rw [← eS]
    exact pushCells_keeps _ _ _ _ (Heap.get?_push_of_some _ e)
  have still : ∀ {τ : L2.St} {G : Hp} {sx : Shared}, Inv (blkH X sc Hc scope ce fp) [] τ G sx → (∀ b ∈ fp, G b = none) → ∀ b ∈ fp, FpOk (blkH X sc Hc scope ce fp) [] G b := by
    intro τ G sx Ix hn b hb
    refine ⟨hn b hb, (Ix.ok.exf b hb).1, Ix.ok.exfs b hb, .inl hb, fun x c e => (Ix.ok.exf b hb).2 x c e, fun p hp => ?_⟩
    have hp' : p ∈ X.pn ++ [] := hp
    rw [List.append_nil] at hp'
    exact (freeC b hb).1.2.2.2.2.2 p (List.mem_append_left _ hp')
  have loop : codeAny (model X.prog X.w) X.A (.compLoop (.ListComp elt [⟨tg, iter, ifs, 0⟩] scope pos) 0 (.ref it) (.ref L) ce) (compPost (model X.prog X.w) X.A X.xe none (fun v s1 => EP X pins σ Q v s1) (.ref L) sc.heap.objs.size) sd := by
    refine compLoop_any (fun n sx => ∃ i G, Inv (blkH X sc Hc scope ce fp) [] (wipe σ (own.map (·.2))) G sx ∧ tn i sx.heap ∧ (∀ b ∈ fp, G b = none) ∧ W i n G) ?_ m0 ⟨0, Hc, Id, tnD, none0, w0⟩
    rintro n s5 ⟨i, G5, I5, tn5, n5, w5⟩
    rcases turn i n G5 w5 with ⟨stop, fin⟩ | ⟨go, Nx, hNx, step⟩
    · refine thnF (T.done (blkH X sc Hc scope ce fp) rfl rfl rfl hc i [] s5 _ G5 (fun _ _ => False) I5 (still I5 n5) tn5 stop) fun r s6 got => ?_
      obtain ⟨rfl, I6⟩ := got
      have I7 : Inv X pins σ G5 s6 := Ic.call' (ch := fp) I6.os I6.base I6.hok I6.bare fun b hb => ⟨(freeC b hb).1.2.2.2.1, (freeC b hb).1.2.1, (freeC b hb).1.2.2.2.2.1, (freeC b hb).1.2.2.2.2.2⟩
      have noneC : G5 sc.heap.objs.size = none := by
        have z : G5 ce.locals = none := I6.free
        rw [locE] at z
        exact z
      obtain ⟨m, hn, _⟩ := I6.loc
      have hn' : s6.heap.Ns ce.locals m := hn
      rw [locE] at hn'
      refine ⟨m, hn', fun h'' sb' => ?_⟩
      obtain ⟨f0, f1, f2, f3, f4, f5⟩ := Ic.fpOk (Nat.le_refl _) noneC
      exact ⟨.ref L, G5, I7.turned (t' := s6.toks) (fun b o hb e => (sb'.2 b hb).trans e) f0 f1 f3 f4 f5, rfl, fin⟩
    · refine thnF (T.item (blkH X sc Hc scope ce fp) rfl rfl rfl hc i [] s5 _ G5 (fun _ _ => False) I5 (still I5 n5) tn5 go) fun r s6 got => ?_
      obtain ⟨u, rfl, h6⟩ := got
      refine thnF h6 fun _ s7 got7 => ?_
      obtain ⟨x, G7, I7, r7, y7, tn7, n7⟩ := got7
      have I7' := I7.pinned (still I7 n7) (T.obj _ _ tn7)
      refine thnF (pg.run _ s7 _ G7 x u _ I7' r7 (step x G7 y7)) fun _ s8 got8 => ?_
      obtain ⟨σ8, G8, I8, hw8, q8⟩ := got8
      refine thnF (pt.run _ s8 σ8 G8 _ I8 q8) fun b s9 got9 => ?_
      obtain ⟨G9, I9, q9⟩ := got9
      have over : ∀ {sx : Shared} {G : Hp}, Inv (blkH X sc Hc scope ce fp) ([] ++ pinsAt fp s7.heap) σ8 G sx → Nx G → ∃ m, m < n ∧ ∃ i G, Inv (blkH X sc Hc scope ce fp) [] (wipe σ (own.map (·.2))) G sx ∧ tn i sx.heap ∧ (∀ b ∈ fp, G b = none) ∧ W i m G := by
        intro sx G Ix nx
        obtain ⟨m', hm, w'⟩ := hNx G nx
        have held : ∀ b ∈ fp, ∀ o, s7.heap.get? b = some o → sx.heap.get? b = some o ∧ G b = none := fun b hb o e =>
          have z := Ix.pin (b, o) (List.mem_append_right _ (List.mem_append_right _ (mem_pinsAt hb e)))
          ⟨z.1, z.2.1⟩
        have len8 : (wipe σ (own.map (·.2))).length = σ8.length := by rw [← hw8, wipe_length]
        refine ⟨m', hm, i + 1, G, (Ix.unpinned (pins := [])).weak len8 (fun j v e => ?_), T.keep _ _ _ tn7 fun b hb o e => (held b hb o e).1, fun b hb => ?_, w'⟩
        · rw [← hw8] at e
          exact (wipe_some e).1
        · obtain ⟨o, e, _⟩ := T.obj _ _ tn7 b hb
          exact (held b hb o e).2
      cases b with
      | false =>
        simp only [Bool.false_eq_true, if_false] at q9 ⊢
        exact over I9 q9
      | true =>
        simp only [if_true] at q9 ⊢
        refine thnF (pe.run _ s9 σ8 G9 _ I9 q9) fun z s10 got10 => ?_
        obtain ⟨yv, G10, I10, r10, acc, hD10, hz10, nx⟩ := got10
        exact app_ok (X := blkH X sc Hc scope ce fp) I10 hD10 hz10 r10 fun s11 I11 => over I11 nx
  exact codeAny_compStart_list loop (T.self X.A 0 _ _ _ tnD loop)
end
end KwX
set_option Elab.async false
set_option linter.all false
set_option maxRecDepth 100000
set_option maxHeartbeats 4000000
/-! a lambda with parameters that captures nothing: made, handed on, called by a local name -/
namespace KwX
open PySem PySem.Spec PyProof.Rows L2 LamX NdefX
/-- the object at f is the lambda F (its words but the body), body b -/
def LamO (f : Addr) (F : NF) (b : Expr) : HO := .ext fun h => ∃ (od : Option Addr) (sl : Array (Option Value)) (pm ctv : Value), h.get? f = some (⟨.type "function", od, .func (PySem.W.kla_fn F.name F.qual F.params b F.scope F.cl pm (.ref F.c) ctv), sl⟩ : Obj)
theorem lamO_ne {f : Addr} {F : NF} {b : Expr} (ps : Array Value) : LamO f F b ≠ .tbl ps := fun z => by
  unfold LamO at z
  cases z
theorem lamO_at {P : Program} {w : World} {H : Hp} {h : Heap} {f : Addr} {F : NF} {b : Expr} (hok : HOk P w H h) (e : H f = some (LamO f F b)) :
    ∃ (od : Option Addr) (sl : Array (Option Value)) (pm ctv : Value), h.get? f = some (⟨.type "function", od, .func (PySem.W.kla_fn F.name F.qual F.params b F.scope F.cl pm (.ref F.c) ctv), sl⟩ : Obj) := (hok f _ e).1
section
variable {X : Cx} {pins : List (Addr × Obj)} {σ : L2.St} {H : Hp} {s : Shared}
theorem inv_lam {F : NF} {b : Expr} {o : Obj} {t' : Nat} {pm ctv : Value} (I : Inv X pins σ H s) (ho : o = { cls := .type "function", data := .func (PySem.W.kla_fn F.name F.qual F.params b F.scope F.cl pm (.ref F.c) ctv) }) :
    Inv X pins σ (upd H s.heap.objs.size (LamO s.heap.objs.size F b)) { s with heap := s.heap.push o, toks := t' } := by
  have at_ : (s.heap.push o).get? s.heap.objs.size = some o := Heap.get?_push_size _ (by rw [ho]; rfl)
  have at2 : (s.heap.push o).get? s.heap.objs.size = some { cls := .type "function", data := .func (PySem.W.kla_fn F.name F.qual F.params b F.scope F.cl pm (.ref F.c) ctv) } := by
    rw [at_, ho]
  exact I.laid (a := s.heap.objs.size) (fun c u e => Heap.get?_push_of_some _ e) (Nat.le_refl _) ⟨⟨_, _, pm, ctv, at2⟩, ⟨_, at2⟩, fun h1 h2 ⟨od, sl, p, t, z⟩ stay => ⟨od, sl, p, t, stay _ z⟩⟩
end
/-- lambda ..: body, as a value -/
def tLamV (T : List (Addr × Str)) (mk : Addr → NF) (b : Expr) : TE := fun σ H Q => Tabs T H ∧ ∀ (f c' : Addr) (H1 : Hp), ExtN H H1 → (∀ y, H1 y = none → H y = none) → Tabs T H1 → H f = none → H1 f = some (LamO f (mk c') b) → H1 c' = some (CodeO c' (mk c').qual) → Q (.ref f) H1
section
variable {X : Cx}
theorem pe_lamV {T : List (Addr × Str)} {c P : Addr} {params : Arguments} {body : Expr} {scope : Scope} {pos : Pos} (TB : TabB X.base X.mg c P) (hcode : X.env.code = .ref c) (hm : (P, X.env.qual ++ "<lambda>") ∈ T) (hu : ∀ p ∈ T, p.1 = P → p.2 = X.env.qual ++ "<lambda>")
    (hdef : defaultsOf params X.env = ([], [])) (nofree : ∀ y ∈ scope.names, y.2 ≠ .free) (hcl : ∀ cells, cloFrom cells scope.names [] = []) :
    PE X (.Lambda params body scope pos) (tLamV T (fun c' => ⟨"<lambda>", X.env.qual ++ "<lambda>", params, [], scope, [], c'⟩) body) := by
  constructor
  intro pins s σ H Q I want
  obtain ⟨tabs, k⟩ := want
  obtain ⟨ps, gP, tri, each⟩ := tabs _ hm
  refine PySem.W.kla_eval hdef ?_
  have clo : closureFor scope X.env = pure [] := by
    have := closure_ok (env := X.env) (scope := scope) (fun y hy e => absurd e (nofree y hy))
    rw [hcl] at this
    exact this
  have blt : s.heap.BuiltinsAt X.mg P := TB.bm.keeps I.bk
  have gP' : s.heap.get? P = some { cls := .none, data := .fields ps } := I.hok P _ gP
  cases found : codeAmong pos ps.toList with
  | some cv =>
    obtain ⟨c', rfl, hco⟩ := each pos cv found
    refine PySem.W.kla_makeFunctionHit (mg := X.mg) (c := c) (P := P) (ps := ps) clo I.ok.glob (I.mod.glob.keeps I.bk) hcode (TB.code.keeps I.bk) gP' tri found blt fun ctv hp tk keep _ => ?_
    have I1 : Inv X pins σ H { s with heap := hp, toks := tk } := I.kept keep
    have new1 : H hp.objs.size = none := I1.hok.fresh (Nat.le_refl _)
    have I2 := inv_lam (F := ⟨"<lambda>", X.env.qual ++ "<lambda>", params, [], scope, [], c'⟩) (b := body) (t' := tk) (pm := (X.mg "__name__").getD .none) (ctv := ctv) I1 rfl
    have past : ∀ b o, H b = some o → upd H hp.objs.size (LamO hp.objs.size ⟨"<lambda>", X.env.qual ++ "<lambda>", params, [], scope, [], c'⟩ body) b = some o := fun b o e => (upd_ne (ne_of_none e new1)).trans e
    exact ⟨.ref hp.objs.size, _, I2, rfl, k _ c' _ (ExtN.of past) (fun y e => upd_none e) (tabs.ext past) new1 upd_same (past _ _ hco)⟩
  | none =>
    refine PySem.W.kla_makeFunction (mg := X.mg) (c := c) (P := P) (ps := ps) clo I.ok.glob (I.mod.glob.keeps I.bk) hcode (TB.code.keeps I.bk) gP' tri found TB.gP blt fun c' ctv hp tk ext ge lt rec_ tab => ?_
    obtain ⟨c2, oc, vs, t, e2, hoc, hd, hv⟩ := rec_
    cases e2
    have newC : H c' = none := I.hok.fresh ge
    have I1 := inv_table (t' := tk) (more := #[rawInt pos.line, rawInt pos.col, .ref c']) (h' := hp) I gP (fun b o hb e => ext b o hb e) tab ge ⟨oc, vs, t, hoc, hd, hv⟩
    have past : ExtN H (upd (upd H P (.tbl (ps ++ #[rawInt pos.line, rawInt pos.col, .ref c']))) c' (CodeO c' (X.env.qual ++ "<lambda>"))) := by
      intro b o e n
      rw [upd_ne (ne_of_none e newC), upd_ne (fun z => n ps (Option.some.inj (e.symm.trans (by rw [z]; exact gP))))]
      exact e
    have app : (ps ++ #[rawInt pos.line, rawInt pos.col, .ref c']).toList = ps.toList ++ [rawInt pos.line, rawInt pos.col, .ref c'] := by simp
    have tabs1 : Tabs T (upd (upd H P (.tbl (ps ++ #[rawInt pos.line, rawInt pos.col, .ref c']))) c' (CodeO c' (X.env.qual ++ "<lambda>"))) := by
      intro p hp'
      by_cases same : p.1 = P
      · rw [hu p hp' same, same]
        refine ⟨_, by rw [upd_ne (ne_of_none gP newC), upd_same], by rw [app]; exact PySem.TriplesOk_snoc _ _ _ _ tri, fun p' cv hcv => ?_⟩
        rw [app] at hcv
        rcases among_app _ tri hcv with z | z
        · obtain ⟨c0, e1, e2⟩ := each p' cv z
          exact ⟨c0, e1, past _ _ e2 codeO_ne⟩
        · exact ⟨c', z, upd_same⟩
      · obtain ⟨ps', a1, a2, a3⟩ := tabs p hp'
        refine ⟨ps', by rw [upd_ne (ne_of_none a1 newC), upd_ne same]; exact a1, a2, fun p' cv hcv => ?_⟩
        obtain ⟨c0, e1, e2⟩ := a3 p' cv hcv
        exact ⟨c0, e1, past _ _ e2 codeO_ne⟩
    have newF := I1.hok.fresh (Nat.le_refl _)
    have I2 := inv_lam (F := ⟨"<lambda>", X.env.qual ++ "<lambda>", params, [], scope, [], c'⟩) (b := body) (t' := tk) (pm := (X.mg "__name__").getD .none) (ctv := ctv) I1 rfl
    refine ⟨.ref hp.objs.size, _, I2, rfl, k _ c' _ (fun b o e n => ?_) (fun b e => upd_none (upd_none (upd_none e))) (tabs1.ext fun b o e => ?_) (I.hok.fresh (Nat.le_trans ge (Nat.le_of_lt lt))) upd_same ?_⟩
    · have e1 := past b o e n
      exact (upd_ne (ne_of_none e1 newF)).trans e1
    · exact (upd_ne (ne_of_none e newF)).trans e
    · exact (upd_ne (Nat.ne_of_lt lt)).trans upd_same
end
/-- what a lambda of the words F, body b, promises wherever it lies -/
structure LOk (P : Program) (w : World) (K : PySem.W.Frag) (mg : Str → Option Value) (base : Heap) (CX : CXT) (k : Nat) (F : NF) (b : Expr) (ps : List Str) (sp : Sp) : Prop where
  len : ∀ vs H Q E, sp vs H Q E → vs.length = ps.length
  run : ∀ (f : Addr) (A : Around) (outer : List Env) (s : Shared) (H : Hp) (us : List Value) (vs : List V) (Q : VK) (E : XK), Room k A → Env0 P w K mg base A outer s H → H f = some (LamO f F b) → H F.c = some (CodeO F.c F.qual) → Vals vs us → sp vs H Q E →
    codeAny (model P w) A (.call (.ref f) ⟨us, []⟩) (CR CX outer P w H s Q E) s
section
variable {CX : CXT} {P : Program} {w : World} {K : PySem.W.Frag} {mg : Str → Option Value} {base : Heap} {N ps : List Str} {F : NF} {b : Expr} {k j : Nat} {sp : Sp}
theorem lok_of (S : NScope N ps [] F.scope) (cl0 : F.cl = []) (hb : ∀ (pm ctv : Value) (us : List Value), us.length = ps.length → bindArgs (PySem.W.kla_fn F.name F.qual F.params b F.scope F.cl pm (.ref F.c) ctv) ⟨us, []⟩ = pure (ps.zip us)) (len : ∀ vs H Q E, sp vs H Q E → vs.length = ps.length)
    (body : ∀ (f : Addr) (A : Around) (outer : List Env) (s : Shared) (H : Hp) (vs : List V) (Q : VK) (E : XK), Room k (A.deeper (envF F f s.heap.objs.size)) → sp vs H Q E → ∃ t, PE (ncx CX P w K mg base N F f A outer s H E) b t ∧ t (startF N vs []) H Q) : LOk P w K mg base CX (k + 1) F b ps sp := by
  refine ⟨len, fun f A outer s H us vs Q E hr e0 hf hc r hsp => ?_⟩
  have hl := len _ _ _ _ hsp
  have lim : s.heap.NoLimit := e0.mod.nolimit.keeps fun b o e => (e0.bs b o e).1
  obtain ⟨od, sl, pm, ctv, ho⟩ := lamO_at e0.hok hf
  refine PySem.W.kla_callFunE hr.depth ho rfl S.co S.gen rfl (codeO_at e0.hok hc) ?_
  rw [hb pm ctv us (by rw [← r.length]; exact hl)]
  refine wpAny_pure (wpAny_newFunctionEnv S.nocell (fun ⟨n, _⟩ hy => S.par n (List.of_mem_zip hy).1) (fun hp hns hsb => ⟨lim.fresh _ hsb, ?_⟩) S.kind)
  change codeAny _ _ (.expr b (envF F f s.heap.objs.size)) _ _
  have kp : ∀ b o, s.heap.get? b = some o → hp.get? b = some o := fun b o e => hsb.extBut b o (Nat.ne_of_lt (Heap.lt_size e)) (Heap.get?_push_of_some _ e)
  obtain ⟨t, ht, hq⟩ := body f A outer s H vs Q E (hr.deeper _) hsp
  have C : CellsAt F.cl [] [] s.heap H := by
    rw [cl0]
    exact ⟨rfl, (fun y c e => by cases e), (fun x y c e => by cases e), (fun i y e => by cases e)⟩
  have I : Inv (ncx CX P w K mg base N F f A outer s H E) [] (startF N vs []) H { s with heap := hp, toks := s.toks + (ps.zip us).length } := inv_startN S hr.hd e0 hl r C hns kp
  refine PySem.W.kla_codeExpr (wpAny_mono (ht.run [] _ _ H Q I hq) (fun v s' got => ?_) fun e s' got => got)
  obtain ⟨w', H', J, rv, q⟩ := got
  exact ⟨w', H', J.os, J.bare, J.base, J.hok, rv, q⟩
end
/-- x(e, ..), x a local name that holds a lambda of the words F c', body b -/
def tCallV (mk : Addr → NF) (b : Expr) (i : Nat) (sp : Sp) (E : L2.St → XK) (t : TA) : TE := fun σ H Q => ∃ f c', σ[i]? = some (some (.ref f)) ∧ H f = some (LamO f (mk c') b) ∧ t σ H fun vs H1 => H1 f = some (LamO f (mk c') b) ∧ H1 (mk c').c = some (CodeO (mk c').c (mk c').qual) ∧ sp vs H1 Q (E σ)
section
variable {X : Cx} {CX : CXT} {mk : Addr → NF} {b : Expr} {ps : List Str} {i j k : Nat} {x : Str} {sp : Sp} {E : L2.St → XK} {t : TA} {e : Expr} {es : List Expr} {p pos : Pos}
theorem lamAt_of {pins : List (Addr × Obj)} {σ : L2.St} {H : Hp} {s : Shared} {f : Addr} {F : NF} (I : Inv X pins σ H s) (e : H f = some (LamO f F b)) : PySem.W.FnAt f s.heap := by
  obtain ⟨od, sl, pm, ctv, ho⟩ := lamO_at I.hok e
  exact ⟨_, od, _, sl, ho⟩
theorem pe_callV (L : ∀ c', LOk X.prog X.w X.K X.mg X.base CX k (mk c') b ps sp) (hr : Room j X.A) (hk : k ≤ j) (hx : ∀ σ, PassesAt CX X σ (E σ)) (hN : X.N[i]? = some x) (hv : Vis X.env.scope x) (ha : PA X (e :: es) t)
    (hd : (x == ("__debug__" : Str)) = false := by decide) (hcd : (x == ("__classdict__" : Str)) = false := by decide)
    (he : starEach (e :: es) X.env = (false, eval e X.env) :: starEach es X.env := by rfl) (hpl : (backTo pos (starEach es X.env)).any (·.1) = false := by rfl) :
    PE X (.Call (.Name x p) (e :: es) [] pos) (tCallV mk b i sp E t) := by
  constructor
  intro pins s σ H Q I want
  obtain ⟨f, c', hs, hf, ht⟩ := want
  refine wpAny_Call_Name_kw (thn ((pe_var (pos := p) hN hv hd hcd).run pins s σ H (fun v H1 => v = .ref f ∧ H1 = H) I ⟨.ref f, hs, rfl, rfl⟩) fun u s1 got => ?_)
  obtain ⟨v, H1, I1, r1, ev, eH⟩ := got
  subst ev
  rw [eH] at I1
  obtain rfl : u = Value.ref f := r1
  refine PySem.W.callWith_F (first := []) (lamAt_of I1 hf) (thn (ha.run pos pins s1 σ H _ I1 ht) fun us s2 got2 => ?_) he hpl
  obtain ⟨vs, H2, I2, r, h1, h2, q⟩ := got2
  refine ⟨lamAt_of I2 h1, ?_⟩
  change wpAny _ _ (call (.ref f) us) _ _ _
  refine wpAny_call (codeAny_mono ((L c').run f X.A X.stack s2 H2 us vs Q (E σ) (hr.mono hk) I2.env0 h1 h2 r q) fun res s3 got3 => ?_)
  cases res with
  | error ev => exact hx σ pins H2 s2 ev s3 I2 got3
  | ok fl =>
    cases fl with
    | ret u => exact I2.after got3
    | next => exact False.elim got3
    | brk => exact False.elim got3
    | cont => exact False.elim got3
end
end KwX
set_option Elab.async false
set_option linter.all false
set_option maxRecDepth 100000
set_option maxHeartbeats 4000000
namespace Kw
open PySem PySem.Spec PyProof.Rows L2 Evl KwX NdefX LamX
/-- what an error class of the program, made of a text, must say -/
structure ExcT (K : PySem.W.Frag) (mg : Str → Option Value) (x : Str) (C : Addr) : Prop where
  g : mg x = some (.ref C)
  q : PySem.W.excIn K C [.type "ValueError", .type "Exception", .type "BaseException", .type "object"] "ValueError.__new__" = true
  k : PySem.W.keepIn K (.ref C) = true
  b : PySem.W.subIn K (.ref C) (.type "BaseException") = some true
  t : PySem.W.typeIn K (.ref C) = some (.type "type")
theorem keepN {H H' : Hp} (e : ExtN H H') : KeepT H H' := fun b xs r => by
  rcases r with h | ⟨o, h⟩
  · exact .inl (e b _ h fun ps z => by cases z)
  · exact .inr ⟨o, e b _ h fun ps z => by cases z⟩
theorem ExtN.ex {H H' : Hp} (e : Ex H H') : ExtN H H' := fun b o h _ => e b o h
section
variable {P : Program} {w : World} {K : PySem.W.Frag} {mg : Str → Option Value} {base : Heap}
/-- a def that may raise -/
theorem okN {x qual : Str} {st : Stmt} {f : Addr} {fd : FuncData} {N ps : List Str} {k : Nat} {sp : Sp} (F : Fun K x qual st f fd) (S : FnScope N ps (defScope st)) (len : ∀ vs H Q E, sp vs H Q E → vs.length = ps.length)
    (body : ∀ (cdv : Value) (A : Around) (outer : List Env) (s : Shared) (H : Hp) (vs : List V) (Q : VK) (E : XK), Room k (A.deeper (envOfC qual (defScope st) s.heap.objs.size f cdv)) → sp vs H Q E →
      ∃ t, PSs (cxOf (L2N.CX P w) P w K mg base N qual (defScope st) f cdv A outer s H E) (defBody st) t ∧ t { nx := fun _ H' => Q .non H', rt := Q } (start N vs) H) : FnOk P w K mg base (L2N.CX P w) (k + 1) f fd ps sp := by
  obtain ⟨oc, od, kV, doc, pm, an, cdv, ct, osl, rfl, lk, hcd⟩ := F.ex
  exact fn_of lk hcd S len fun A outer s H vs Q E hr hsp => body cdv A outer s H vs Q E hr hsp
/-- a def that makes lambdas: its code's table is known -/
theorem okT {x : Str} {st : Stmt} {f c : Addr} {N ps : List Str} {k : Nat} {sp : Sp} {kV doc pm ct oc : Value} {an od : Option Addr} {osl : Array (Option Value)} (lk : K.lookup f = some ⟨oc, od, .func (PySem.W.fnOf x x (defArgs st) (defBody st) (defScope st) .none kV doc pm an (.ref c) ct), osl⟩) (hcd : PySem.W.codeIn K (.ref c) x = true)
    (S : FnScope N ps (defScope st)) (len : ∀ vs H Q E, sp vs H Q E → vs.length = ps.length)
    (body : ∀ (A : Around) (outer : List Env) (s : Shared) (H : Hp) (vs : List V) (Q : VK) (E : XK), Room k (A.deeper (envOfC x (defScope st) s.heap.objs.size f (.ref c))) → sp vs H Q E →
      ∃ t, PSs (cxOf CX0 P w K mg base N x (defScope st) f (.ref c) A outer s H E).nox (defBody st) t ∧ t { nx := fun _ H' => Q .non H', rt := Q } (start N vs) H) : FnOk P w K mg base CX0 (k + 1) f (PySem.W.fnOf x x (defArgs st) (defBody st) (defScope st) .none kV doc pm an (.ref c) ct) ps sp :=
  fn_of lk hcd S len fun A outer s H vs Q E hr h => by
    obtain ⟨t, h1, h2⟩ := body A outer s H vs Q E hr h
    exact ⟨t, h1.nox, h2⟩
/-- lambda a, b, c: x(a, b) -/
def spLam2 (spX : Sp) : Sp := fun vs H Q E => ∃ (v y z : V), vs = [v, y, z] ∧ spX [v, y] H Q E
def spLam1 (spX : Sp) : Sp := fun vs H Q E => ∃ (v y z : V), vs = [v, y, z] ∧ spX [v] H Q E
theorem lok_2 {f : Addr} {fd : FuncData} {k : Nat} {F : NF} {x : Str} {st : Stmt} {ps : List Str} {spX : Sp} {pp p1 p2 pos : Pos} (S : NScope ["a", "b", "c"] ["a", "b", "c"] [] F.scope) (cl0 : F.cl = []) (gl : F.scope.names.lookup x = some NameKind.globalImplicit)
    (hb : ∀ (pm ctv : Value) (us : List Value), us.length = 3 → bindArgs (PySem.W.kla_fn F.name F.qual F.params (.Call (.Name x pp) [.Name "a" p1, .Name "b" p2] [] pos) F.scope F.cl pm (.ref F.c) ctv) ⟨us, []⟩ = pure ((["a", "b", "c"] : List Str).zip us))
    (DL : Df K mg x st ps f fd) (GL : FnOk P w K mg base (L2N.CX P w) k f fd ps spX) (hx : (x == ("__debug__" : Str)) = false := by decide) :
    LOk P w K mg base (L2N.CX P w) (k + 1) F (.Call (.Name x pp) [.Name "a" p1, .Name "b" p2] [] pos) ["a", "b", "c"] (spLam2 spX) := by
  refine lok_of S cl0 hb (fun vs H Q E h => ?_) (fun g A outer s H vs Q E hr h => ?_)
  · obtain ⟨v, x, z, rfl, _⟩ := h
    rfl
  · obtain ⟨v, y, z, rfl, h⟩ := h
    refine ⟨tCallS spX (fun σ => WE (fun cls d _ H => E cls d H) σ) (tCons (tVar 0) (tCons (tVar 1) tNil)), pe_callS GL hr gl DL.g DL.F.kp DL.b (fun σ => L2N.passAt (L2N.takes_of rfl rfl rfl rfl) σ) (pa_cons (pe_var (i := 0) rfl (.inl (S.par "a" (by decide +kernel)))) (pa_cons (pe_var (i := 1) rfl (.inl (S.par "b" (by decide +kernel)))) pa_nil)) hx, ?_⟩
    exact ⟨v, rfl, y, rfl, h⟩
theorem lok_1 {f : Addr} {fd : FuncData} {k : Nat} {F : NF} {x : Str} {st : Stmt} {ps : List Str} {spX : Sp} {pp p1 pos : Pos} (S : NScope ["a", "b", "c"] ["a", "b", "c"] [] F.scope) (cl0 : F.cl = []) (gl : F.scope.names.lookup x = some NameKind.globalImplicit)
    (hb : ∀ (pm ctv : Value) (us : List Value), us.length = 3 → bindArgs (PySem.W.kla_fn F.name F.qual F.params (.Call (.Name x pp) [.Name "a" p1] [] pos) F.scope F.cl pm (.ref F.c) ctv) ⟨us, []⟩ = pure ((["a", "b", "c"] : List Str).zip us))
    (DL : Df K mg x st ps f fd) (GL : FnOk P w K mg base (L2N.CX P w) k f fd ps spX) (hx : (x == ("__debug__" : Str)) = false := by decide) :
    LOk P w K mg base (L2N.CX P w) (k + 1) F (.Call (.Name x pp) [.Name "a" p1] [] pos) ["a", "b", "c"] (spLam1 spX) := by
  refine lok_of S cl0 hb (fun vs H Q E h => ?_) (fun g A outer s H vs Q E hr h => ?_)
  · obtain ⟨v, x, z, rfl, _⟩ := h
    rfl
  · obtain ⟨v, y, z, rfl, h⟩ := h
    refine ⟨tCallS spX (fun σ => WE (fun cls d _ H => E cls d H) σ) (tCons (tVar 0) tNil), pe_callS GL hr gl DL.g DL.F.kp DL.b (fun σ => L2N.passAt (L2N.takes_of rfl rfl rfl rfl) σ) (pa_cons (pe_var (i := 0) rfl (.inl (S.par "a" (by decide +kernel)))) pa_nil) hx, ?_⟩
    exact ⟨v, rfl, h⟩
end
/-! ### where the lambdas stand in a text -/
def stBody : Stmt → List Stmt
  | .For _ _ l _ _ => l
  | .If _ l _ _ => l
  | .While _ l _ _ => l
  | _ => []
def stEx : Stmt → Expr
  | .If t _ _ _ => t
  | .Assign _ e _ => e
  | .Return (some e) _ => e
  | .Expr e _ => e
  | _ => .Constant .none 0 ⟨0, 0, 0, 0⟩
def exLeft : Expr → Expr
  | .Compare l _ _ _ => l
  | .Subscript l _ _ => l
  | .UnaryOp _ l _ => l
  | e => e
def exArg (i : Nat) : Expr → Expr
  | .Call _ as _ _ => as.getD i (.Constant .none 0 ⟨0, 0, 0, 0⟩)
  | .BoolOp _ as _ => as.getD i (.Constant .none 0 ⟨0, 0, 0, 0⟩)
  | e => e
def lamPs : Expr → Arguments
  | .Lambda p _ _ _ => p
  | _ => ⟨[], [], none, [], [], none, []⟩
def lamBd : Expr → Expr
  | .Lambda _ b _ _ => b
  | e => e
def lamSc : Expr → Scope → Scope
  | .Lambda _ _ s _, _ => s
  | _, s => s
def mkLam (q : Str) (e : Expr) (s : Scope) (c' : Addr) : NF := ⟨"<lambda>", q ++ ".<locals>." ++ "<lambda>", lamPs e, [], lamSc e s, [], c'⟩
end Kw
set_option Elab.async false
set_option linter.all false
set_option maxRecDepth 100000
set_option maxHeartbeats 4000000
namespace Kw
open PySem PySem.Spec PyProof.Rows L2 Evl KwX NdefX LamX
section
variable {K : PySem.W.Frag} {H H' : Hp}
theorem sqL_n {a : Addr} {xs : List V} (e : ExtN H H') (h : SqL K H a xs) : SqL K H' a xs := by
  rcases h with (h | ⟨o, h⟩) | h
  · exact .inl (.inl (e _ _ h fun ps z => by cases z))
  · exact .inl (.inr ⟨o, e _ _ h fun ps z => by cases z⟩)
  · exact .inr h
mutual
theorem dp_n (e : ExtN H H') : ∀ (d : PyData) (v : V), Dp K H v d → Dp K H' v d
  | .none, _, h => by cases h; exact .non
  | .bool b, _, h => by cases h; exact .bl b
  | .int i, _, h => by cases h; exact .int i
  | .str x, _, h => by cases h; exact .str x
  | .list ds, _, h => by
    cases h with
    | lst h a => exact .lst (sqL_n e h) (dpA_n e ds _ a)
  | .tuple ds, _, h => by
    cases h with
    | tup h a => exact .tup (keep_t (keepN e) h) (dpA_n e ds _ a)
  | .dict _, _, h => by cases h
theorem dpA_n (e : ExtN H H') : ∀ (ds : List PyData) (vs : List V), DpAll K H vs ds → DpAll K H' vs ds
  | [], _, h => by cases h; exact .nil
  | d :: ds, _, h => by
    cases h with
    | cons a b => exact .cons (dp_n e d _ a) (dpA_n e ds _ b)
end
end
/-! ### displays of data -/
def EvD (K : PySem.W.Frag) (te : TE) (σ : L2.St) (H : Hp) (d : PyData) : Prop := EvP te σ H (fun v H' => Dp K H' v d)
def EvDA (K : PySem.W.Frag) (ta : TA) (σ : L2.St) (H : Hp) (ds : List PyData) : Prop := ∀ H1, Ex H H1 → ∀ Q : List V → Hp → Prop, (∀ vs H2, Ex H1 H2 → DpAll K H2 vs ds → Q vs H2) → ta σ H1 Q
section
variable {K : PySem.W.Frag} {σ : L2.St} {H H' : Hp} {ta tb tc te tl : TE} {t u : TT} {x y z v : V} {r r' : R2} {d : PyData} {ds : List PyData} {D : Ends} {g : TG} {tu tz : TS}
theorem ed_of (h : Ev te σ H v) (hd : Dp K H v d) : EvD K te σ H d := fun H1 e Q q => h H1 e Q fun H2 e2 => q v H2 e2 (dp_ex (e.trans e2) _ _ hd)
theorem ed_non : EvD K (tC .non) σ H .none := ed_of ev_c .non
theorem ed_bl {b : Bool} : EvD K (tC (.bl b)) σ H (.bool b) := ed_of ev_c (.bl b)
theorem ed_int {i : Int} : EvD K (tC (.int i)) σ H (.int i) := ed_of ev_c (.int i)
theorem ed_str {s : Str} : EvD K (tC (.str s)) σ H (.str s) := ed_of ev_c (.str s)
theorem ed_neg {i : Int} : EvD K (tUn (rU fun i => .int (-i)) (tC (.int i))) σ H (.int (-i)) := ed_of (ev_un ev_c ru_neg) (.int _)
theorem ed_var {i : Nat} (h : σ[i]? = some (some v)) (hd : Dp K H v d) : EvD K (tVar i) σ H d := ed_of (ev_var h) hd
theorem da_nil : EvDA K tNil σ H [] := fun H1 _ Q q => q [] H1 (Ex.refl H1) .nil
theorem da_cons {ta : TA} (h : EvD K te σ H d) (hr : EvDA K ta σ H ds) : EvDA K (tCons te ta) σ H (d :: ds) := fun H1 e Q q =>
  h H1 e _ fun v H2 e2 hv => hr H2 (e.trans e2) _ fun vs H3 e3 hvs => q (v :: vs) H3 (e2.trans e3) (.cons (dp_ex e3 _ _ hv) hvs)
theorem ed_tup {ta : TA} (h : EvDA K ta σ H ds) (hl : ds.length ≤ 1000) : EvD K (tTup ta) σ H (.tuple ds) := fun H1 e Q q =>
  h H1 e _ fun vs H2 e2 hvs => ⟨sz_of (by rw [dpA_len hvs]; omega), fun p hp => q (.ref p) _ (e2.trans (Ex.new hp)) (.tup (st_of upd_same) (dpA_ex (Ex.new hp) _ _ hvs))⟩
theorem ed_lst {ta : TA} (h : EvDA K ta σ H ds) (hl : ds.length ≤ 1000) : EvD K (tLst ta) σ H (.list ds) := fun H1 e Q q =>
  h H1 e _ fun vs H2 e2 hvs => ⟨sz_of (by rw [dpA_len hvs]; omega), fun p hp => q (.ref p) _ (e2.trans (Ex.new hp)) (.lst (sq_of upd_same) (dpA_ex (Ex.new hp) _ _ hvs))⟩
/-- a for over a displayed tuple -/
theorem for_DT {ta : TA} (h : EvDA K ta σ H ds) (hl : ds.length ≤ 1000) (k : ∀ p vs H1, Ex H H1 → H1 p = some (.tup vs) → DpAll K H1 vs ds → tFor (fun _ H R => R (Itt K p) H) g tu D σ H1) : tFor (iTup K (tTup ta)) g tu D σ H :=
  h H (Ex.refl H) _ fun vs H2 e2 hvs => ⟨sz_of (by rw [dpA_len hvs]; omega), fun p hp => ⟨p, rfl, ⟨vs, st_of upd_same⟩, k p vs _ (e2.trans (Ex.new hp)) upd_same (dpA_ex (Ex.new hp) _ _ hvs)⟩⟩
theorem q_for_DT {ta : TA} (h : EvDA K ta σ H ds) (hl : ds.length ≤ 1000) (k : ∀ p vs H1, Ex H H1 → H1 p = some (.tup vs) → DpAll K H1 vs ds → tFor (fun _ H R => R (Itt K p) H) g tu { D with nx := tz D } σ H1) : tSeq (tFor (iTup K (tTup ta)) g tu) tz D σ H := for_DT h hl k
theorem for_src (h : tl σ H fun v H1 => ∃ a, v = .ref a ∧ (∃ xs, SqL K H1 a xs) ∧ tFor (fun _ H R => R (Itl K a) H) g tu D σ H1) : tFor (iList K tl) g tu D σ H := h
theorem q_for_src (h : tl σ H fun v H1 => ∃ a, v = .ref a ∧ (∃ xs, SqL K H1 a xs) ∧ tFor (fun _ H R => R (Itl K a) H) g tu { D with nx := tz D } σ H1) : tSeq (tFor (iList K tl) g tu) tz D σ H := h
theorem call_src {sp : Sp} {ta : TA} {E : XK} {vs : List V} {Q : VK} (h : EvA ta σ H vs) (k : ∀ H1, Ex H H1 → sp vs H1 Q E) : tCall sp [] E ta σ H Q := h H (Ex.refl H) _ fun H1 e => by
  rw [List.append_nil]
  exact k H1 e
end
end Kw
set_option Elab.async false
set_option linter.all false
set_option maxRecDepth 100000
set_option maxHeartbeats 4000000
namespace KwS
open PySem PySem.Spec PyProof.Rows L2
/-! ### sets of keys of any kind, by the list of what was put in -/
theorem prd_perm {α β : Type} {F : α → β → Prop} {es es' : List α} (p : es'.Perm es) : ∀ {js : List β}, Paired F es js → ∃ js' : List β, js'.Perm js ∧ Paired F es' js' := by
  induction p with
  | nil => exact fun h => ⟨_, List.Perm.refl _, h⟩
  | cons x _ ih =>
    intro js h
    cases h with
    | cons r t =>
      obtain ⟨j, h1, h2⟩ := ih t
      exact ⟨_ :: j, h1.cons _, .cons r h2⟩
  | swap x y l =>
    intro js h
    cases h with
    | cons r t =>
      cases t with
      | cons r2 t2 => exact ⟨_, List.Perm.swap _ _ _, .cons r2 (.cons r t2)⟩
  | trans _ _ ih1 ih2 =>
    intro js h
    obtain ⟨j1, a1, b1⟩ := ih2 h
    obtain ⟨j2, a2, b2⟩ := ih1 b1
    exact ⟨j2, a2.trans a1, b2⟩
theorem prd_mem {α β : Type} {F : α → β → Prop} {x : α} : ∀ {es : List α} {js : List β}, Paired F es js → x ∈ es → ∃ j ∈ js, F x j
  | _, _, .cons r t, h => by
    rcases List.mem_cons.mp h with rfl | h
    · exact ⟨_, List.mem_cons_self, r⟩
    · obtain ⟨j, h1, h2⟩ := prd_mem t h
      exact ⟨j, List.mem_cons_of_mem _ h1, h2⟩
theorem prd_mem2 {α β : Type} {F : α → β → Prop} {j : β} : ∀ {es : List α} {js : List β}, Paired F es js → j ∈ js → ∃ x ∈ es, F x j
  | _, _, .cons r t, h => by
    rcases List.mem_cons.mp h with rfl | h
    · exact ⟨_, List.mem_cons_self, r⟩
    · obtain ⟨x, h1, h2⟩ := prd_mem2 t h
      exact ⟨x, List.mem_cons_of_mem _ h1, h2⟩
section
variable {P : Program} {w : World} {κ : Type} [DecidableEq κ] (kd : PySem.KeyKind P w κ)
def Ent (e : Int × Value) (k : κ) : Prop := kd.is k e.2 = true ∧ e.1 = kd.hash k ∧ e.2.scannable = true
/-- the set at a: its keys are those of ks -/
def GS (h : Heap) (a : Addr) (ks : List κ) : Prop := ∃ (ob : Obj) (es : Array (Int × Value)) (ep : Nat) (tb : SetTable) (js : List κ), h.get? a = some ob ∧ ob.ExactSet ∧ ob.data = .set es ep tb ∧ Paired (Ent kd) es.toList js ∧ js.Nodup ∧ (∀ k, k ∈ js ↔ k ∈ ks) ∧
  es.size ≤ ks.length ∧ tb.fits es.size = true ∧ Ris tb.place.toList ∧ (w.params.followText "set-order" = true ∨ tb.led = true)
variable {kd}
theorem GS.at {h h' : Heap} {a : Addr} {ks : List κ} (g : GS kd h a ks) (k : ∀ o, h.get? a = some o → h'.get? a = some o) : GS kd h' a ks := by
  obtain ⟨ob, es, ep, tb, js, h1, r⟩ := g
  exact ⟨ob, es, ep, tb, js, k _ h1, r⟩
theorem elems {l : List (Int × Value)} {js : List κ} (p : Paired (Ent kd) l js) : ElemsOf kd l := fun e he => by
  obtain ⟨k, _, h1, h2, h3⟩ := prd_mem p he
  exact ⟨⟨k, h1, h2⟩, h3⟩
section
variable {A : Around} {E : Value → Shared → Prop} {s : Shared} {a : Addr} {ks : List κ}
theorem put_at {h : Heap} {ob : Obj} {es es2 : Array (Int × Value)} {ep : Nat} {tb tb2 : SetTable} (h1 : h.get? a = some ob) (h2 : ob.data = .set es ep tb) : (h.update a (Obj.putSet es2 tb2)).get? a = some { ob with data := .set es2 (ep + 1) tb2 } := by
  have z := putSet_of es2 tb2 h2
  have y := Heap.get?_update_self (Obj.putSet es2 tb2) h1 (by rw [z]; rfl)
  rwa [z] at y
theorem gs_tail {gw : Bool → Sem Unit} (hgw : ∀ (b : Bool) (s1 : Shared) (Q' : Unit → Shared → Prop), Q' () s1 → wpAny (model P w) A (gw b) Q' E s1) {ob : Obj} {es es1 : Array (Int × Value)} {ep : Nat} {tb t2 : SetTable} (h1 : s.heap.get? a = some ob) (hx : ob.ExactSet) (h2 : ob.data = .set es ep tb)
    {js : List κ} (hp : Paired (Ent kd) es1.toList js) (nd : js.Nodup) (hm : ∀ k, k ∈ js ↔ k ∈ ks) (hsz : es1.size ≤ ks.length) (hb : ks.length < scanBound) (hf : t2.fits es1.size = true) (hr : Ris t2.place.toList) (hl : w.params.followText "set-order" = true ∨ t2.led = true) {wd : Bool} {R : Option Bool → Shared → Prop}
    (hR : ∀ h', Heap.SameBut a s.heap h' → GS kd h' a ks → R (some true) { s with heap := h' }) :
    wpAny (model P w) A (do
        storeSet a es1 t2
        if (!wd && t2.tooFull) = true then do
            gw (relayAll t2 es1 (SetTable.grown es1.size)).2.2
            storeSet a (relayAll t2 es1 (SetTable.grown es1.size)).1 (relayAll t2 es1 (SetTable.grown es1.size)).2.1
            pure (some true)
          else pure (some true)) R E s := by
  refine wpAny_bind (wpAny_storeSet_of h1 h2 ?_ (fits_of_scanBound (Nat.lt_of_le_of_lt hsz hb)))
  have i1 := put_at (es2 := es1) (tb2 := t2) h1 h2
  have b1 := Heap.SameBut.update s.heap a (Obj.putSet es1 t2)
  split
  · have q1 := relayAll_perm t2 es1 (SetTable.grown es1.size)
    have q2 := relayAll_fits t2 es1 (SetTable.grown es1.size)
    have q3 := relayAll_ris t2 es1 (SetTable.grown es1.size)
    have q4 := relayAll_led t2 es1 (SetTable.grown es1.size)
    generalize relayAll t2 es1 (SetTable.grown es1.size) = Zs at q1 q2 q3 q4 ⊢
    obtain ⟨es3, t3, gv⟩ := Zs
    dsimp only at q1 q2 q3 q4 ⊢
    have e3 : es3.size = es1.size := by
      have := q1.length_eq
      simpa using this
    obtain ⟨js2, j1, j2⟩ := prd_perm q1 hp
    refine wpAny_bind (hgw _ _ _ (wpAny_bind (wpAny_storeSet_of i1 rfl ?_ (fits_of_scanBound (by rw [e3]; exact Nat.lt_of_le_of_lt hsz hb)))))
    have i2 := put_at (es2 := es3) (tb2 := t3) i1 rfl
    exact wpAny_pure (hR _ (b1.trans (Heap.SameBut.update _ a _)) ⟨_, es3, _, t3, js2, i2, hx, rfl, j2, j1.nodup_iff.mpr nd, fun k => j1.mem_iff.trans (hm k), by rw [e3]; exact hsz, q2, q3, hl.imp id fun z => by rw [q4]; exact z⟩)
  · exact wpAny_pure (hR _ b1 ⟨_, es1, _, t2, js, i1, hx, rfl, hp, nd, hm, hsz, hf, hr, hl⟩)
theorem gs_add {k : κ} {x : Value} (hk : kd.is k x = true) (hx : x.scannable = true) (g : GS kd s.heap a ks) (room : ks.length + 1 < scanBound) {Q : Bool → Shared → Prop}
    (hQ : ∀ b h', Heap.SameBut a s.heap h' → GS kd h' a (ks ++ [k]) → Q b { s with heap := h' }) : wpAny (model P w) A (setAddHashed a x (kd.hash k)) Q E s := by
  obtain ⟨ob, es, ep, tb, js, o1, o2, o3, hp, nd, hm, hsz, hf, hr, hl⟩ := g
  have hel := elems hp
  have hlen : es.size < scanBound := Nat.lt_of_le_of_lt hsz (Nat.lt_of_succ_lt room)
  unfold setAddHashed setAddHashedIn
  refine wpAny_holding (wpAny_bind (wpAny_setState_of o1 o3 hf ?_))
  dsimp only
  rw [byScan_of hx hlen hel]
  simp only [↓reduceIte]
  unfold setAddByScan
  refine wpAny_bind (wpAny_bind (wpAny_rule (wpAny_bind (wpAny_setScan_of hk o1 o3 hf hel ?_))))
  cases hfi : List.findIdx? (fun e => kd.is k e.2) es.toList with
  | some j =>
    dsimp only
    obtain ⟨hj, pj, _⟩ := List.findIdx?_eq_some_iff_getElem.mp hfi
    obtain ⟨k0, hk0, hi0, _⟩ := prd_mem hp (List.getElem_mem hj)
    have ek : k0 = k := kd.inj _ _ _ hi0 pj
    refine wpAny_pure (wpAny_pure (hQ false s.heap (Heap.SameBut.refl a s.heap) ⟨ob, es, ep, tb, js, o1, o2, o3, hp, nd, fun i => ?_, by rw [List.length_append]; omega, hf, hr, hl⟩))
    rw [hm i, List.mem_append, List.mem_singleton]
    exact ⟨Or.inl, fun z => z.elim id fun e => by rw [e, ← ek]; exact (hm k0).mp hk0⟩
  | none =>
    dsimp only
    have hnk : k ∉ js := fun z => by
      obtain ⟨e, he, q, _⟩ := prd_mem2 hp z
      have c := List.findIdx?_eq_none_iff.mp hfi e he
      rw [q] at c
      cases c
    have gw : ∀ (b : Bool) {s1 : Shared} {Q' : Unit → Shared → Prop}, Q' () s1 → wpAny (model P w) A (match b with | true => rule "set.scan.the-table-gave-way" | false => pure ()) Q' E s1 := fun b s1 Q' q => by
      cases b
      · exact wpAny_pure q
      · exact wpAny_rule q
    have q1 := layNew_perm tb es (kd.hash k) x
    have q2 := layNew_fits tb es (kd.hash k) x
    have q3 := layNew_ris tb es (kd.hash k) x hr
    have q4 := layNew_led tb es (kd.hash k) x
    generalize layNew tb es (kd.hash k) x = Zs at q1 q2 q3 q4 ⊢
    obtain ⟨es1, t1, wd, gv⟩ := Zs
    dsimp only at q1 q2 q3 q4 ⊢
    rw [Array.toList_push] at q1
    have q5 : es1.toList.Perm ((kd.hash k, x) :: es.toList) := q1.trans (List.perm_append_singleton _ _)
    obtain ⟨js1, j1, j2⟩ := prd_perm q5 (.cons ⟨hk, rfl, hx⟩ hp : Paired (Ent kd) ((kd.hash k, x) :: es.toList) (k :: js))
    have nd1 : js1.Nodup := j1.nodup_iff.mpr (List.nodup_cons.mpr ⟨hnk, nd⟩)
    have m1 : ∀ i, i ∈ js1 ↔ i ∈ ks ++ [k] := fun i => by
      rw [j1.mem_iff, List.mem_cons, hm i, List.mem_append, List.mem_singleton]
      exact Or.comm
    have sz1 : es1.size ≤ (ks ++ [k]).length := by
      have := q5.length_eq
      simp at this
      rw [List.length_append, List.length_singleton]
      omega
    have rm : (ks ++ [k]).length < scanBound := by
      rw [List.length_append, List.length_singleton]
      exact room
    have led1 : w.params.followText "set-order" = true ∨ t1.led = true := hl.imp id fun z => by rw [q4]; exact z
    refine wpAny_bind (gw _ ?_)
    split
    · refine wpAny_bind ?_
      rw [hashByValue_scannable 8 hx]
      refine wpAny_pure ?_
      refine gs_tail ?_ o1 o2 o3 j2 nd1 m1 sz1 rm ?_ ?_ ?_ ?_
      · intro b s1 Q' q
        exact gw b q
      · split
        · exact q2
        · exact SetTable.fits_plain_off q2
      · split <;> exact q3
      · split <;> exact led1
      · intro h' sb r
        exact wpAny_pure (hQ true h' sb r)
    · refine wpAny_bind (wpAny_pure ?_)
      simp only [↓reduceIte]
      refine gs_tail ?_ o1 o2 o3 j2 nd1 m1 sz1 rm q2 q3 led1 ?_
      · intro b s1 Q' q
        exact gw b q
      · intro h' sb r
        exact wpAny_pure (hQ true h' sb r)
end
end
end KwS
set_option Elab.async false
set_option linter.all false
set_option maxRecDepth 100000
set_option maxHeartbeats 4000000
namespace KwS
open PySem PySem.Spec PyProof.Rows L2
/-- a set just made -/
def fresh0 (w : World) : Obj := { cls := .type "set", dict := none, data := .set #[] 0 (.fresh 0 0 (!w.params.followText "set-order")) }
section
variable {P : Program} {w : World} {κ : Type} [DecidableEq κ] {kd : PySem.KeyKind P w κ} {A : Around} {E : Value → Shared → Prop} {s : Shared}
theorem gs_fresh {h : Heap} {a : Addr} (ho : h.get? a = some (fresh0 w)) : GS kd h a [] := by
  refine ⟨_, #[], 0, _, [], ho, ⟨rfl, rfl, rfl⟩, rfl, .nil, List.nodup_nil, fun _ => Iff.rfl, Nat.le_refl _, rfl, List.Pairwise.nil, ?_⟩
  show _ ∨ (!w.params.followText "set-order") = true
  cases w.params.followText "set-order" with
  | true => exact .inl rfl
  | false => exact .inr rfl
theorem gs_update {I : Addr} {fp wr : List Addr} {G : Array GenState → Array GenState → Prop} {n : Nat} {Pv : Nat → Value → Prop} {St : Nat → Shared → Prop} {R : Result → Shared → Prop} (W : WalksS P w A.in1 I fp wr G n Pv St) (S : Addr) (hS : S ∉ fp) (ks : List κ) (hn : n = ks.length)
    (hb : ks.length + 1 < scanBound) (hval : ∀ i v, Pv i v → ∃ k, ks[i]? = some k ∧ kd.is k v = true ∧ v.scannable = true) : ∀ (m i : Nat) (s : Shared), n - i = m → i ≤ n → St i s → GS kd s.heap S (ks.take i) →
      (∀ s', Moved (S :: wr) G s s' → GS kd s'.heap S ks → R (.ok (.ret .none)) s') → codeAny (model P w) A (.builtin "set.update.loop" ⟨[.ref S, .ref I], []⟩) R s := by
  have nw : S ∉ wr := fun z => hS (W.sub _ z)
  have up : ∀ b ∈ wr, b ∈ S :: wr := fun b z => List.mem_cons_of_mem _ z
  intro m
  induction m with
  | zero =>
    intro i s hm hi st g hR
    have e : i = n := Nat.le_antisymm hi (Nat.sub_eq_zero_iff_le.mp hm)
    subst e
    refine codeAny_builtin F.entry_set_update_loop ?_
    rw [Around.under_plainId F.plain_set_update_loop _]
    refine wpAny_bind (W.done s _ _ st fun s1 mv => wpAny_pure (hR s1 (mv.mono up) ?_))
    rw [List.take_of_length_le (by omega)] at g
    exact g.at fun o q => mv.heap S o nw q
  | succ m ih =>
    intro i s hm hi st g hR
    have lt : i < n := by omega
    refine codeAny_builtin F.entry_set_update_loop ?_
    rw [Around.under_plainId F.plain_set_update_loop _]
    refine wpAny_bind (W.item i s _ _ lt st fun v s1 hP st1 mv => ?_)
    obtain ⟨k, hk, his, hsc⟩ := hval i v hP
    have g1 : GS kd s1.heap S (ks.take i) := g.at fun o q => mv.heap S o nw q
    refine wpAny_bind (wpAny_holding ?_)
    unfold setAdd
    refine wpAny_holding (wpAny_bind (kd.pyHash his ?_))
    refine gs_add (s := { s1 with toks := s1.toks + 1 }) his hsc g1 (by rw [List.length_take]; omega) fun bb h2 sb g2 => ?_
    have g3 : GS kd h2 S (ks.take (i + 1)) := by
      rw [List.take_add_one, hk]
      exact g2
    refine wpAny_pure ⟨plainId_quiet F.plain_set_update_loop _, ih (i + 1) _ (by omega) lt (W.frame _ s1 _ _ st1 (Nat.le_succ _) fun b z o q => ?_) g3 fun s2 mv2 g4 => ?_⟩
    · have nb : b ≠ S := fun y => hS (y ▸ z)
      rw [sb.2 b nb]
      exact q
    · refine hR s2 (Moved.trans W.gtrans ((mv.mono up).then_heap (Nat.le_succ _) fun b o z q => ?_) mv2) g4
      have nb : b ≠ S := fun y => z (y ▸ List.mem_cons_self)
      rw [sb.2 b nb]
      exact q
theorem set_made (a : Value) {Q1 : Value → Shared → Prop} (h : Q1 (.ref s.heap.objs.size) { s with heap := s.heap.push (fresh0 w) }) : codeAny (model P w) A (.call (.builtin "set.__new__") ⟨[.type "set", a], []⟩) (wants Q1 E) s := code_set_led1 a h
set_option maxHeartbeats 8000000 in
/-- set(t), t a tuple -/
theorem call_setT {l : Addr} {its : Array Value} (ks : List κ) {Q : Value → Shared → Prop} (hh : A.handled = none) (hl : s.heap.IsTuple l its) (hz : its.size = ks.length) (hit : ∀ (i : Nat) (v : Value), its[i]? = some v → ∃ k, ks[i]? = some k ∧ kd.is k v = true ∧ v.scannable = true) (hb : ks.length + 1 < scanBound)
    (h : ∀ (h' : Heap) (tk : Nat), GS kd h' s.heap.objs.size ks → (∀ b o, s.heap.get? b = some o → h'.get? b = some o) → Q (.ref s.heap.objs.size) { s with heap := h', toks := tk }) : wpAny (model P w) A (call (.type "set") [.ref l]) Q E s := by
  obtain ⟨c0, tl0, m0⟩ := F.called_set.mro
  have m1 := F.called_set.made
  have m2 := F.called_set.sub
  have m3 := F.called_set.notType
  have m4 := F.called_set.canCreate
  have m5 := F.typeCall_set_1 (.ref l)
  refine wpAny_call (codeAny_of_tree ?_)
  refine wpAny_pure ⟨Code.quiet_builtin _ (by decide +kernel), codeAny_builtin F.entry_type_call ?_⟩
  rw [Around.under_plain (weight_type_call_type "set" [.ref l] []) rfl]
  repeat (any_goals (first | assumption | wp_step))
  refine codeAny_mono (set_made (.ref l) (E := E) (Q1 := fun v s1 => v = .ref s.heap.objs.size ∧ s1 = { s with heap := s.heap.push (fresh0 w) }) ⟨rfl, rfl⟩) fun r s1 hr => ?_
  cases r with
  | error e => exact hr
  | ok fl =>
    cases fl with
    | ret v =>
      obtain ⟨rfl, rfl⟩ := hr
      have hS : (s.heap.push (fresh0 w)).get? s.heap.objs.size = some (fresh0 w) := Heap.get?_push_size _ rfl
      have hT : Shared.TypeIs { s with heap := s.heap.push (fresh0 w) } (.ref s.heap.objs.size) "set" := ⟨_, hS, rfl⟩
      have n1 := F.called_set.init.lookup
      have n2 := F.called_set.init.bind (.ref s.heap.objs.size)
      repeat (any_goals (first | assumption | wp_step))
      refine codeAny_mono (codeAny_call_builtin (R := wants (fun r s2 => r = .none ∧ ∃ h' tk, s2 = { s with heap := h', toks := tk } ∧ GS kd h' s.heap.objs.size ks ∧ (∀ b o, s.heap.get? b = some o → h'.get? b = some o)) E) F.called_set.init.plain F.entry_set_init (check_set_init_1 hT ?_)) fun r2 s2 hr2 => ?_
      · obtain ⟨⟨oc, od, oo, os⟩, hol, hc, nl, hd⟩ := hl
        cases (show oc = .type "tuple" from hc)
        cases (show oo = .seq its nl from hd)
        have hol2 : (s.heap.push (fresh0 w)).get? l = some { cls := .type "tuple", dict := od, data := .seq its nl, slots := os } := Heap.get?_push_of_some _ hol
        have t1 := F.sub_tuple_set
        have t2 := F.sub_tuple_frozenset
        have t3 : (Value.type "tuple" == Value.type "dict") = false := by decide
        have hl1 : (s.heap.push (fresh0 w)).IsTuple l its := ⟨_, hol2, rfl, nl, rfl⟩
        unfold Builtin.«set.__init__» noKeywords Builtin.Frozenset.updateFrom
        generalize hPI : pyIter = PI
        wp_walk
        subst hPI
        refine wpAny_pyIter_tuple hl1 (wpAny_bind (wpAny_runValue ?_))
        have ls : l < s.heap.objs.size := Heap.lt_size hol
        have h3 : A.in1.in1.in1.handled = none := by simp [hh]
        have z1 : (s.heap.push (fresh0 w)).objs.size = s.heap.objs.size + 1 := Heap.size_push ..
        have nI : l ≠ (s.heap.push (fresh0 w)).objs.size := by
          rw [z1]
          exact Nat.ne_of_lt (Nat.lt_succ_of_lt ls)
        have nS : s.heap.objs.size ∉ [(s.heap.push (fresh0 w)).objs.size, l] := by
          rw [z1]
          intro z
          rcases List.mem_cons.mp z with z | z
          · exact Nat.succ_ne_self _ z.symm
          · exact Nat.ne_of_gt ls (List.mem_singleton.mp z)
        refine gs_update ((Walks.tuple h3 _ l nI its).toS) s.heap.objs.size nS ks hz hb hit (its.size - 0) 0 _ rfl (Nat.zero_le _) ⟨⟨_, Heap.get?_push_size _ rfl, rfl, rfl⟩, hl1.push _⟩ (gs_fresh (Heap.get?_push_of_some _ hS)) fun s3 mv g3 => ?_
        obtain ⟨h3', gg, dd, tk, oo⟩ := s3
        have e1 : gg = s.gens := mv.gens
        have e2 : dd = s.drawn := mv.drawn
        have e3 : oo = s.os := mv.os
        subst e1
        subst e2
        subst e3
        refine wpAny_pure ?_
        show wpAny _ _ (ret Value.none) _ _ _
        refine wpAny_pure ⟨rfl, h3', tk, rfl, g3, fun b o e => ?_⟩
        have hb0 : b < s.heap.objs.size := Heap.lt_size e
        refine mv.heap b o (fun z => ?_) (Heap.get?_push_of_some _ (Heap.get?_push_of_some _ e))
        rcases List.mem_cons.mp z with z | z
        · exact Nat.ne_of_lt hb0 z
        · have y := List.mem_singleton.mp z
          rw [z1] at y
          exact Nat.ne_of_lt (Nat.lt_succ_of_lt hb0) y
      · cases r2 with
        | error e => exact hr2
        | ok f2 =>
          cases f2 with
          | ret r =>
            obtain ⟨rfl, h', tk, rfl, g3, hk⟩ := hr2
            repeat (any_goals (first | assumption | wp_step))
            exact h _ _ g3 hk
          | _ => exact hr2.elim
    | _ => exact hr.elim
end
end KwS
set_option Elab.async false
set_option linter.all false
set_option maxRecDepth 100000
set_option maxHeartbeats 4000000
namespace KwS
open PySem PySem.Spec PyProof.Rows L2
/-- the set of the texts zs, at a -/
def TxS (P : Program) (w : World) (a : Addr) (zs : List Str) : HO := .ext fun h => GS (PySem.strKind P w) h a zs
section
variable {X : Cx}
theorem txs_new {P : Program} {w : World} {H : Hp} {h : Heap} {a : Addr} {zs : List Str} (g : GS (PySem.strKind P w) h a zs) : ObjOk P w H h a (TxS P w a zs) := by
  have ⟨o, _, _, _, _, ho, _⟩ := g
  exact ⟨g, ⟨o, ho⟩, fun h1 h2 p k => GS.at p k⟩
def rSetTx (K : PySem.W.Frag) (P : Program) (w : World) : List V → Hp → VK → Prop := fun xs H Q => ∃ (l : Addr) (zs : List Str), xs = [V.ref l] ∧ SqT K H l (zs.map V.str) ∧ zs.length ≤ 50 ∧ ∀ p, H p = none → Q (.ref p) (upd H p (TxS P w p zs))
theorem vals_get {xs : List V} {us : List Value} {i : Nat} {v : Value} (r : Vals xs us) (h : us[i]? = some v) : ∃ x, xs[i]? = some x ∧ RelV x v := by
  have hi := (List.getElem?_eq_some_iff.mp h).1
  have hj : i < xs.length := by
    rw [r.length]
    exact hi
  obtain ⟨u, h1, h2⟩ := r.get (List.getElem?_eq_getElem hj)
  rw [h] at h1
  cases h1
  exact ⟨_, List.getElem?_eq_getElem hj, h2⟩
theorem cr_setTx (hc : X.calm = true) : CallR X (.type "set") (rSetTx X.K X.prog X.w) := by
  intro pins s σ H xs us Q I r h
  obtain ⟨l, zs, rfl, hl, hn, q⟩ := h
  rw [Vals.ref1 r]
  obtain ⟨its, rv, pt, _⟩ := I.tuple hl
  have hlen : its.length = zs.length := by
    rw [← rv.length, List.length_map]
  refine call_setT (kd := PySem.strKind X.prog X.w) zs (I.ok.hd hc) pt (by simpa using hlen) (fun i v hv => ?_) (Nat.lt_of_le_of_lt (Nat.succ_le_succ hn) (by decide)) fun h' tk g hk => ?_
  · have hv' : its[i]? = some v := by simpa using hv
    obtain ⟨x, hx, rx⟩ := vals_get rv hv'
    rw [List.getElem?_map] at hx
    cases ez : zs[i]? with
    | none =>
      rw [ez] at hx
      cases hx
    | some z =>
      rw [ez] at hx
      cases hx
      obtain ⟨t, rfl⟩ := rx
      exact ⟨z, rfl, keyIs_str z t, rfl⟩
  · exact ⟨.ref _, upd H s.heap.objs.size (TxS X.prog X.w s.heap.objs.size zs), I.laid (t' := tk) hk (Nat.le_refl _) (txs_new g), rfl, q _ (I.hok.fresh (Nat.le_refl _))⟩
theorem strs_of : ∀ {vs : List Value} {zs : List Str}, Paired (fun v z => Value.isStrOf z v = true) vs zs → StrsAre vs zs
  | _, _, .nil => .nil
  | _, _, .cons h t => by
    obtain ⟨tk, rfl⟩ := Value.isStrOf_shape h
    exact .cons _ tk (strs_of t)
theorem prd_map {α β γ : Type} {F : β → γ → Prop} {f : α → β} : ∀ {es : List α} {js : List γ}, Paired (fun e j => F (f e) j) es js → Paired F (es.map f) js
  | _, _, .nil => .nil
  | _, _, .cons r t => .cons r (prd_map t)
def rSortTx (P : Program) (w : World) : List V → Hp → VK → Prop := fun vs H Q => ∃ (a : Addr) (zs : List Str), vs = [V.ref a] ∧ H a = some (TxS P w a zs) ∧ zs.length ≤ 50 ∧
  ∀ (ys : List Str) (p : Addr), ys.Nodup → (∀ z, z ∈ ys ↔ z ∈ zs) → sortedS ys = true → H p = none → Q (.ref p) (upd H p (.lst (ys.map V.str)))
theorem cr_sortTx (hc : X.calm = true) : CallR X (.builtin "sorted") (rSortTx X.prog X.w) := by
  intro pins s σ H vs us Q I r h
  obtain ⟨a, zs, rfl, ha, hn, q⟩ := h
  rw [Vals.ref1 r]
  obtain ⟨ob, es, ep, tb, js, o1, o2, o3, hp, nd, hm, hsz, hf, hr, hl⟩ := (I.hok a _ ha).1
  have h50 : es.size ≤ 50 := Nat.le_trans hsz hn
  refine Calls.call_function_entry kind_sorted plain_sorted entry_sorted (args_sorted1 _) ?_
  unfold Builtin.«sorted»
  refine wpAny_bind (m := checkCount "sorted" 1 1 _) (wpAny_pure (wpAny_bind (collect_set (A := X.A.in1) (I.ok.hd hc) ⟨ob, o1, o2.1, o3⟩ hf (Nat.lt_of_le_of_lt h50 (by decide)) hr hl fun s1 out k1 hz g1 os1 pm => ?_)))
  obtain ⟨js1, j1, j2⟩ := prd_perm pm (prd_map (f := Prod.snd) (F := fun v z => Value.isStrOf z v = true) (Paired.mapP hp fun e z x => x.1))
  have hS := strs_of j2
  have hol : out.length ≤ 50 := by
    rw [pm.length_eq, List.length_map, Array.length_toList]
    exact h50
  refine wpAny_bind (wpAny_newList ?_ (Nat.le_trans hol (by decide)))
  have hoL : (s1.heap.push (seqObj "list" out.toArray 0)).get? s1.heap.objs.size = some (seqObj "list" out.toArray 0) := Heap.get?_push_size _ rfl
  refine wpAny_bind (wpAny_holding (wpAny_call_entry slot_list_sort ⟨_, hoL, rfl⟩ entry_list_sort (list_sort_treeK PyProof.Rows.strKind_oneLt hoL hS.keysOf (fun v1 v2 rest e => keyKind_strs (by rw [← e]; exact hS)) (by omega) fun st hp2 hs2 => ⟨_, rfl, ?_⟩) (args_list_sort _)))
  obtain ⟨ys, y1, y2, y3⟩ := sorted_out_str hS hp2 hs2
  obtain ⟨e9, he9⟩ := sortedHeap_at (vs := out) (out := (arrOf st).map (·.2)) hoL
  have hlen : (ys.map V.str).length ≤ sizeLine := by
    rw [List.length_map, y2.length_eq, ← Paired.length j2]
    exact Nat.le_trans hol (by decide)
  have kp : ∀ b o, s.heap.get? b = some o → (sortedHeap (s1.heap.push (seqObj "list" out.toArray 0)) s1.heap.objs.size out ((arrOf st).map (·.2))).get? b = some o := fun b o e => by
    have z := k1 b o e
    have lt := Heap.lt_size z
    rw [sortedHeap_old (Nat.ne_of_lt lt) (by rw [size_push']; exact Nat.lt_succ_of_lt lt)]
    exact Heap.get?_push_of_some _ z
  have hno : H s1.heap.objs.size = none := I.hok.fresh hz
  have hob : ObjOk X.prog X.w (upd H s1.heap.objs.size (.lst (ys.map V.str))) (sortedHeap (s1.heap.push (seqObj "list" out.toArray 0)) s1.heap.objs.size out ((arrOf st).map (·.2))) s1.heap.objs.size (.lst (ys.map V.str)) := ⟨hlen, ((arrOf st).map (·.2)).toList, e9, vals_of_strs y1, by rw [Array.toArray_toList]; exact he9⟩
  generalize hG : sortedHeap (s1.heap.push (seqObj "list" out.toArray 0)) s1.heap.objs.size out ((arrOf st).map (·.2)) = G at kp hob
  have J : Inv X pins σ (upd H s1.heap.objs.size (.lst (ys.map V.str))) { s with heap := G, gens := s1.gens, drawn := s1.drawn, toks := s1.toks } := I.call (ch := []) (Un.laid kp hz hno) (I.hok.laid kp hz hob) (by rw [g1]; exact I.bare) (fun _ z => nomatch z)
  have e1 : ({ s1 with heap := G } : Shared) = { s with heap := G, gens := s1.gens, drawn := s1.drawn, toks := s1.toks } := by
    obtain ⟨a1, a2, a3, a4, a5⟩ := s1
    obtain ⟨b1, b2, b3, b4, b5⟩ := s
    cases (show a5 = b5 from os1)
    rfl
  refine wpAny_pure ⟨_, rfl, ?_⟩
  show EP X pins σ Q _ ({ s1 with heap := G } : Shared)
  rw [e1]
  exact ⟨.ref s1.heap.objs.size, _, J, rfl, q ys _ (y2.nodup_iff.mpr (j1.nodup_iff.mpr nd)) (fun z => (y2.mem_iff.trans j1.mem_iff).trans (hm z)) y3 hno⟩
end
end KwS
set_option Elab.async false
set_option linter.all false
set_option maxRecDepth 100000
set_option maxHeartbeats 4000000
namespace Kw
open PySem PySem.Spec PyProof.Rows L2 Evl
def tInstB (K : PySem.W.Frag) (ta tb : TE) : TE := tOp (rCatA K) (tOp (rCatA K) (tSl (rSlA K) (tVar 6) tNoPart (tPart (tVar 8))) (tTup (tCons (tTup (tCons ta (tCons tb tNil))) tNil))) (tSl (rSlA K) (tVar 6) (tPart (tOp (rI0 fun i j => .int (i + j)) (tVar 8) (tC (.int 1)))) tNoPart)
theorem cut_take (xs : List V) (n : Nat) : cutV xs none (some (n : Int)) = xs.take n := by
  unfold cutV
  rw [HT.sIx_nat, HT.sIx_none, Nat.sub_zero, List.drop_zero]
  rcases Nat.lt_or_ge n xs.length with h | h
  · rw [Nat.min_eq_left (Nat.le_of_lt h)]
  · rw [Nat.min_eq_right h, List.take_length, List.take_of_length_le h]
theorem cut_drop (xs : List V) (n : Nat) : cutV xs (some (n : Int)) none = xs.drop n := by
  unfold cutV
  rw [HT.sIx_nat, HT.sIx_none]
  rcases Nat.lt_or_ge n xs.length with h | h
  · rw [Nat.min_eq_left (Nat.le_of_lt h)]
    exact List.take_of_length_le (by rw [List.length_drop]; omega)
  · rw [Nat.min_eq_right h, Nat.sub_self, List.take_zero, List.drop_of_length_le h]
theorem paired_append {α β : Type} {F : α → β → Prop} : ∀ {xs : List α} {ys : List β} {us : List α} {ws : List β}, Paired F xs ys → Paired F us ws → Paired F (xs ++ us) (ys ++ ws)
  | _, _, _, _, .nil, q => q
  | _, _, _, _, .cons r t, q => .cons r (paired_append t q)
theorem paired_take {α β : Type} {F : α → β → Prop} : ∀ {xs : List α} {ys : List β} (n : Nat), Paired F xs ys → Paired F (xs.take n) (ys.take n)
  | _, _, 0, _ => by
    rw [List.take_zero, List.take_zero]
    exact .nil
  | _, _, n + 1, .nil => .nil
  | _, _, n + 1, .cons r t => .cons r (paired_take n t)
theorem paired_drop {α β : Type} {F : α → β → Prop} : ∀ {xs : List α} {ys : List β} (n : Nat), Paired F xs ys → Paired F (xs.drop n) (ys.drop n)
  | _, _, 0, h => h
  | _, _, n + 1, .nil => .nil
  | _, _, n + 1, .cons r t => paired_drop n t
theorem nodup_len : ∀ {ys l : List Str}, ys.Nodup → (∀ y ∈ ys, y ∈ l) → ys.length ≤ l.length
  | [], _, _, _ => Nat.zero_le _
  | a :: r, l, hn, hs => by
    obtain ⟨l1, l2, rfl⟩ := List.append_of_mem (hs a (List.mem_cons_self ..))
    obtain ⟨h1, h2⟩ := List.nodup_cons.mp hn
    have := nodup_len (l := l1 ++ l2) h2 fun y hy => by
      have := hs y (List.mem_cons_of_mem _ hy)
      rcases List.mem_append.mp this with h | h
      · exact List.mem_append_left _ h
      · rcases List.mem_cons.mp h with h | h
        · exact absurd (h ▸ hy) h1
        · exact List.mem_append_right _ h
    simp only [List.length_append, List.length_cons] at this ⊢
    omega
def Uni (xs zs ys : List Str) : Prop := ys.Nodup ∧ Rising ys ∧ ∀ z, z ∈ ys ↔ z ∈ xs ++ zs
theorem Uni.ok {xs zs ys : List Str} {n m k : Nat} (u : Uni xs zs ys) (hx : OkCols xs n) (hz : OkCols zs m) (hk : xs.length + m ≤ k) : OkCols ys k := by
  refine ⟨?_, fun c hc => ?_, u.2.1⟩
  · have := nodup_len u.1 fun y hy => (u.2.2 y).mp hy
    rw [List.length_append] at this
    have := hz.1
    omega
  · rcases List.mem_append.mp ((u.2.2 c).mp hc) with h | h
    · exact hx.2.1 c h
    · exact hz.2.1 c h
theorem inst_set {bs : List Box} {n : Nat} {b : Box} (hn : n < bs.length) : bs.take n ++ [b] ++ bs.drop (n + 1) = bs.set n b := by
  rw [List.set_eq_take_append_cons_drop, if_pos hn, List.append_assoc]
  rfl
theorem bx_set {bs : List Box} {n : Nat} {b : Box} (hn : n < bs.length) (i : Nat) : bx (bs.set n b) i = if i = n then b else bx bs i := by
  unfold bx
  rw [List.getD_eq_getElem?_getD, List.getD_eq_getElem?_getD, List.getElem?_set]
  by_cases h : i = n
  · subst h
    rw [if_pos rfl, if_pos rfl, if_pos hn]
    rfl
  · rw [if_neg (fun z => h z.symm), if_neg h]
theorem ok_set {h : House} {n : Nat} {b : Box} (ho : OkHouse h) (hb : OkBox b) : OkHouse (h.1.set n b, h.2) := by
  refine ⟨by rw [List.length_set]; exact ho.1, by rw [List.length_set]; exact ho.2.1, fun b' hb' => ?_, ho.2.2.2⟩
  rcases List.mem_or_eq_of_mem_set hb' with h1 | h1
  · exact ho.2.2.1 b' h1
  · rw [h1]
    exact hb
theorem ok_bx {h : House} {n : Nat} (ho : OkHouse h) (hn : n < h.1.length) : OkBox (bx h.1 n) := ho.2.2.1 _ (List.mem_of_getElem? (bx_get hn))
theorem rising_drop {cs : List Str} (h : Rising cs) (n : Nat) : Rising (cs.drop n) := fun i x y hx hy => by
  rw [List.getElem?_drop] at hx hy
  exact h (n + i) x y hx (by rw [show n + i + 1 = n + (i + 1) by omega]; exact hy)
def IsC (K : PySem.W.Frag) (cs : List Str) : V → Hp → Prop := fun v H => ∃ a, v = .ref a ∧ SqT K H a (cs.map V.str)
def IsB (K : PySem.W.Frag) (bs : List Box) : V → Hp → Prop := fun v H => ∃ a, v = .ref a ∧ BoxesT K H a bs
section
variable {P : Program} {w : World} {K : PySem.W.Frag} {σ : L2.St} {H H' : Hp} {ta tb te tl : TE} {x y z v : V}
theorem IsC.ex {cs : List Str} (e : Ex H H') (h : IsC K cs v H) : IsC K cs v H' := by
  obtain ⟨a, h1, h2⟩ := h
  exact ⟨a, h1, ex_t e h2⟩
theorem IsB.ex {bs : List Box} (e : Ex H H') (h : IsB K bs v H) : IsB K bs v H' := by
  obtain ⟨a, h1, h2⟩ := h
  exact ⟨a, h1, h2.keep (KeepT.ex e)⟩
theorem ep_pair {Φ Ψ : V → Hp → Prop} (ha : EvP ta σ H Φ) (hb : EvP tb σ H Ψ) (k1 : ∀ v H1 H2, Ex H1 H2 → Φ v H1 → Φ v H2) (k2 : ∀ v H1 H2, Ex H1 H2 → Ψ v H1 → Ψ v H2) :
    EvP (tTup (tCons ta (tCons tb tNil))) σ H (fun v H' => ∃ p x y, v = .ref p ∧ SqT K H' p [x, y] ∧ Φ x H' ∧ Ψ y H') := fun H1 e Q q =>
  ha H1 e _ fun x H2 e2 hx => hb H2 (e.trans e2) _ fun y H3 e3 hy => ⟨by show 2 ≤ sizeLine; decide, fun p hp => q _ _ ((e2.trans e3).trans (Ex.new hp)) ⟨p, x, y, rfl, st_of upd_same, k1 _ _ _ (e3.trans (Ex.new hp)) hx, k2 _ _ _ (Ex.new hp) hy⟩⟩
theorem ep_one {Φ : V → Hp → Prop} (ha : EvP ta σ H Φ) (k1 : ∀ v H1 H2, Ex H1 H2 → Φ v H1 → Φ v H2) :
    EvP (tTup (tCons ta tNil)) σ H (fun v H' => ∃ p x, v = .ref p ∧ SqT K H' p [x] ∧ Φ x H') := fun H1 e Q q =>
  ha H1 e _ fun x H2 e2 hx => ⟨by show 1 ≤ sizeLine; decide, fun p hp => q _ _ (e2.trans (Ex.new hp)) ⟨p, x, rfl, st_of upd_same, k1 _ _ _ (Ex.new hp) hx⟩⟩
theorem ep_catB {Φ Ψ : List Box → Prop} (ha : EvP ta σ H (fun v H' => ∃ bs, Φ bs ∧ IsB K bs v H')) (hb : EvP tb σ H (fun v H' => ∃ bs, Ψ bs ∧ IsB K bs v H')) (hn : ∀ bs cs, Φ bs → Ψ cs → bs.length + cs.length ≤ 100000) :
    EvP (tOp (rCatA K) ta tb) σ H (fun v H' => ∃ bs, (∃ l m, Φ l ∧ Ψ m ∧ bs = l ++ m) ∧ IsB K bs v H') := fun H1 e Q q =>
  ha H1 e _ fun v H2 e2 ⟨l, hl, a, hv, vs, hvs, hp⟩ => hb H2 (e.trans e2) _ fun u H3 e3 ⟨m, hm, b, hu, us, hus, hq⟩ => by
    have l1 : vs.length = l.length := paired_len hp
    have l2 : us.length = m.length := paired_len hq
    have hp3 : Paired (BoxAt K H3) vs l := paired_imp hp fun _ _ x => x.keep (KeepT.ex e3)
    have hpq := paired_append hp3 hq
    refine ⟨a, b, vs, us, hv, hu, ex_t e3 hvs, hus, sz_of (by rw [l1, l2]; exact hn _ _ hl hm), fun z => q _ H3 (e2.trans e3) ⟨_, ⟨l, m, hl, hm, rfl⟩, b, rfl, vs ++ us, by rw [z]; exact hus, hpq⟩, fun _ z => q _ H3 (e2.trans e3) ⟨_, ⟨l, m, hl, hm, rfl⟩, a, rfl, vs ++ us, by rw [z, List.append_nil]; exact ex_t e3 hvs, hpq⟩, fun _ _ p hp => ?_⟩
    exact q _ _ ((e2.trans e3).trans (Ex.new hp)) ⟨_, ⟨l, m, hl, hm, rfl⟩, p, rfl, vs ++ us, st_of upd_same, paired_imp hpq fun _ _ x => x.keep (KeepT.ex (Ex.new hp))⟩
theorem ep_takeB {bs : List Box} {a : Addr} {n : Nat} (hB : BoxesT K H a bs) (ha : Ev ta σ H (.ref a)) (hn : Ev tb σ H (vN n)) : EvP (tSl (rSlA K) ta tNoPart (tPart tb)) σ H (fun v H' => ∃ l, l = bs.take n ∧ IsB K l v H') := by
  obtain ⟨vs, hvs, hp⟩ := hB
  refine (ep_slT (K := K) ha eo_none (eo_some (i := (n : Int)) hn) hvs).imp fun v H1 e ⟨p, h1, h2⟩ => ⟨_, rfl, p, h1, vs.take n, ?_, paired_take n (paired_imp hp fun _ _ x => x.keep (KeepT.ex e))⟩
  rw [cut_take] at h2
  exact h2
theorem ep_dropB {bs : List Box} {a : Addr} {n : Nat} (hB : BoxesT K H a bs) (ha : Ev ta σ H (.ref a)) (hn : Ev tb σ H (vN n)) : EvP (tSl (rSlA K) ta (tPart tb) tNoPart) σ H (fun v H' => ∃ l, l = bs.drop n ∧ IsB K l v H') := by
  obtain ⟨vs, hvs, hp⟩ := hB
  refine (ep_slT (K := K) ha (eo_some (i := (n : Int)) hn) eo_none hvs).imp fun v H1 e ⟨p, h1, h2⟩ => ⟨_, rfl, p, h1, vs.drop n, ?_, paired_drop n (paired_imp hp fun _ _ x => x.keep (KeepT.ex e))⟩
  rw [cut_drop] at h2
  exact h2
theorem ep_dropC {cs : List Str} {a : Addr} (hC : SqT K H a (cs.map V.str)) (ha : Ev ta σ H (.ref a)) : EvP (tSl (rSlA K) ta (tPart (tC (.int 1))) tNoPart) σ H (IsC K (cs.drop 1)) := by
  refine (ep_slT (K := K) ha (eo_some (i := ((1 : Nat) : Int)) ev_c) eo_none hC).imp fun v H1 e ⟨p, h1, h2⟩ => ⟨p, h1, ?_⟩
  rw [cut_drop] at h2
  rw [List.map_drop]
  exact h2
theorem ep_inst {R : Box → Prop} {Φ Ψ : V → Hp → Prop} {ab : Addr} {bs : List Box} {n : Nat} (hB : BoxesT K H ab bs) (h6 : σ[6]? = some (some (.ref ab))) (h8 : σ[8]? = some (some (vN n))) (hl : bs.length ≤ 100)
    (hp : EvP ta σ H Φ) (hq : EvP tb σ H Ψ) (k1 : ∀ v H1 H2, Ex H1 H2 → Φ v H1 → Φ v H2) (k2 : ∀ v H1 H2, Ex H1 H2 → Ψ v H1 → Ψ v H2) (hR : ∀ x y H', Φ x H' → Ψ y H' → ∃ b : Box, R b ∧ IsC K b.1 x H' ∧ IsC K b.2 y H') :
    EvP (tInstB K ta tb) σ H (fun v H' => ∃ b, R b ∧ IsB K (bs.take n ++ [b] ++ bs.drop (n + 1)) v H') := by
  have hm : EvP (tTup (tCons (tTup (tCons ta (tCons tb tNil))) tNil)) σ H (fun v H' => ∃ l, (∃ b, R b ∧ l = [b]) ∧ IsB K l v H') := by
    refine (ep_one (K := K) (ep_pair (K := K) hp hq k1 k2) fun v H1 H2 e ⟨p, x, y, z1, z2, z3, z4⟩ => ⟨p, x, y, z1, ex_t e z2, k1 _ _ _ e z3, k2 _ _ _ e z4⟩).imp fun v H1 e ⟨p, u, hv, hs, p2, x, y, z1, z2, z3, z4⟩ => ?_
    obtain ⟨b, hb, ⟨l, r1, r2⟩, ⟨kk, r3, r4⟩⟩ := hR x y H1 z3 z4
    subst r1 r3 z1
    exact ⟨[b], ⟨b, hb, rfl⟩, p, hv, [.ref p2], hs, .cons ⟨p2, l, kk, rfl, z2, r2, r4⟩ .nil⟩
  refine (ep_catB (K := K) (ep_catB (K := K) (ep_takeB (K := K) (n := n) hB (ev_var h6) (ev_var h8)) hm ?_) (ep_dropB (K := K) (n := n + 1) hB (ev_var h6) (ev_is (ev_op (ev_var h8) ev_c rv_I0) ?_)) ?_).imp fun v H1 e ⟨l, ⟨l1, l2, ⟨l3, l4, e3, ⟨b, hb, e4⟩, e1⟩, e2, e5⟩, hi⟩ => ?_
  · rintro l m rfl ⟨b, _, rfl⟩
    rw [List.length_take, List.length_singleton]
    omega
  · show V.int ((n : Int) + 1) = V.int ((n + 1 : Nat) : Int)
    rw [Int.natCast_succ]
  · rintro l m ⟨l3, l4, rfl, ⟨b, _, rfl⟩, rfl⟩ rfl
    rw [List.length_append, List.length_take, List.length_singleton, List.length_drop]
    omega
  · subst e5 e1 e2 e3 e4
    exact ⟨b, hb, hi⟩
theorem uni_fin {v : V} {xs zs : List Str} {Q : VK} (hv : IsT K ((xs ++ zs).map V.str) v H) (hn : xs.length + zs.length ≤ 50) (q : ∀ ys p H2, Ex H H2 → Uni xs zs ys → SqT K H2 p (ys.map V.str) → Q (.ref p) H2) : tCB (rTupOf K) (tCons (tCB (KwS.rSortTx P w) (tCons (tCB (KwS.rSetTx K P w) (tCons (tC v) tNil)) tNil)) tNil) σ H Q := by
  obtain ⟨p, rfl, hp⟩ := hv
  exact ⟨p, xs ++ zs, rfl, hp, by rw [List.length_append]; exact hn, fun s hs => ⟨s, xs ++ zs, rfl, upd_same, by rw [List.length_append]; exact hn, fun ys l nd hm hst hl => ⟨l, _, rfl, .inl ⟨sq_of upd_same, fun t ht => q ys t _ (((Ex.new hs).trans (Ex.new hl)).trans (Ex.new ht)) ⟨nd, rising_of_sorted nd hst, hm⟩ (st_of upd_same)⟩⟩⟩⟩
/-- x + y of two tuples that stand -/
theorem catT {a b : Addr} {xs ys : List V} {Q : VK} (h1 : SqT K H a xs) (h2 : SqT K H b ys) (hn : xs.length + ys.length ≤ 100000) (q : ∀ v H2, Ex H H2 → IsT K (xs ++ ys) v H2 → Q v H2) : rCatA K (.ref a) (.ref b) H Q := by
  refine ⟨a, b, _, _, rfl, rfl, h1, h2, sz_of hn, fun z => q _ H (Ex.refl H) ⟨b, rfl, ?_⟩, fun _ z => q _ H (Ex.refl H) ⟨a, rfl, ?_⟩, fun _ _ p hp => q _ _ (Ex.new hp) ⟨p, rfl, st_of upd_same⟩⟩
  · rw [z]
    exact h2
  · rw [z, List.append_nil]
    exact h1
theorem ep_take6 {Φ : List Str → Prop} (h : EvP te σ H (fun v H' => ∃ ys, Φ ys ∧ IsC K ys v H')) : EvP (tSl (rSlA K) te tNoPart (tPart (tC (.int 6)))) σ H (fun v H' => ∃ ys, Φ ys ∧ IsC K (ys.take 6) v H') := by
  intro H1 e Q q
  refine h H1 e _ fun v H2 e2 ⟨ys, hy, a, hv, hs⟩ => ?_
  subst hv
  refine ep_slT (K := K) (H := H2) (te := tC (.ref a)) (σ := σ) (lo := none) (hi := some ((6 : Nat) : Int)) ev_c eo_none (eo_some ev_c) hs H2 (Ex.refl H2) _ fun v H3 e3 ⟨p, h1, h2⟩ => q _ H3 (e2.trans e3) ⟨ys, hy, p, h1, ?_⟩
  rw [cut_take] at h2
  rw [List.map_take]
  exact h2
end
end Kw
set_option Elab.async false
set_option linter.all false
set_option maxRecDepth 100000
set_option maxHeartbeats 4000000
namespace KwZ
open PySem PySem.Spec PyProof.Rows L2 KwS
/-! ### sorted(t), t a tuple of ints -/
def grown (h : Heap) (us : List Value) : Heap := (h.push (seqObj "list" #[] 0)).update h.objs.size (Obj.mapSeq (· ++ us.toArray))
section
variable {prog : Program} {w : World} {A : Around} {E : Value → Shared → Prop} {s : Shared}
theorem coll_tup {t : Addr} {us : List Value} {Q : List Value → Shared → Prop} (ht : s.heap.IsTuple t us.toArray) (hn : us.length ≤ sizeLine) (q : Q us { s with heap := grown s.heap us }) : wpAny (model prog w) A (collect (.ref t)) Q E s := by
  obtain ⟨ob, g1, g2, ep, g3⟩ := ht
  have f1 : (s.heap.push (seqObj "list" #[] 0)).get? t = some ob := Heap.get?_push_of_some _ g1
  have f2 : (s.heap.push (seqObj "list" #[] 0)).get? s.heap.objs.size = some (seqObj "list" #[] 0) := Heap.get?_push_size _ rfl
  have k1 : (Value.type "tuple" == Value.type "tuple") = true := by rfl
  unfold collect
  refine wpAny_bind (wpAny_runValue (codeAny_builtin entry_proto_collect' ?_))
  show wpAny _ _ (do
    let l ← newList []
    again (.builtin "list.__iadd__" ⟨[l, .ref t], []⟩)) _ _ s
  refine wpAny_bind (wpAny_newList (wpAny_pure ⟨Code.quiet_builtin _ (by decide +kernel), codeAny_builtin entry_list_iadd' ?_⟩))
  show wpAny _ _ (Builtin.List.listExtendWith (.ref s.heap.objs.size) (.ref t) (.ref s.heap.objs.size)) _ _ { s with heap := s.heap.push (seqObj "list" #[] 0) }
  unfold Builtin.List.listExtendWith
  refine wpAny_bind (wpAny_typeOf (T := "tuple") ⟨ob, f1, g2⟩ ?_)
  rw [if_pos (by rw [k1, Bool.or_true])]
  refine wpAny_bind (listItems_at f1 g3 (wpAny_bind (listItems_at (xs := #[]) (n := 0) f2 rfl ?_)))
  rw [if_neg (by simp)]
  refine wpAny_bind (listUpdate_at (xs := #[]) (n := 0) f2 rfl (wpAny_pure ?_) (Nat.zero_le _) (by
    show (#[] ++ us.toArray).size ≤ sizeLine + 1
    rw [Array.size_append, List.size_toArray]
    show 0 + us.length ≤ sizeLine + 1
    omega))
  have e0 : ((#[] : Array Value) ++ us.toArray).toList = us := by simp
  show wpAny (model prog w) A (do
    let ob ← load s.heap.objs.size
    match ob.data with
    | .seq xs _ => pure xs.toList
    | _ => unsupported "internal:collect") Q E { s with heap := grown s.heap us }
  refine wpAny_bind (wpAny_load (get?_update_seq f2 _) ?_)
  show wpAny _ _ (pure ((#[] : Array Value) ++ us.toArray).toList) Q E _
  rw [e0]
  exact wpAny_pure q
end
section
variable {X : Cx}
def rSortIT (K : PySem.W.Frag) : List V → Hp → VK → Prop := fun vs H Q => ∃ (a : Addr) (ns : List Int), vs = [V.ref a] ∧ SqT K H a (ns.map V.int) ∧ ∀ (ms : List Int) (p : Addr), ms.Perm ns → ms.Pairwise (· ≤ ·) → H p = none → Q (.ref p) (upd H p (.lst (ms.map V.int)))
theorem cr_sortIT : CallR X (.builtin "sorted") (rSortIT X.K) := by
  intro pins s σ H vs us Q I r h
  obtain ⟨a, ns, rfl, hs, q⟩ := h
  obtain ⟨its, rv, pt, hz⟩ := I.tuple hs
  rw [Vals.ref1 r]
  have hi := rv.ints
  have hzl : its.length ≤ sizeLine := by rw [← rv.length]; exact hz
  have z1 : (grown s.heap its).objs.size = s.heap.objs.size + 1 := by
    unfold grown
    rw [Heap.size_update, size_push']
  have hoL : ((grown s.heap its).push (seqObj "list" its.toArray 0)).get? (grown s.heap its).objs.size = some (seqObj "list" its.toArray 0) := Heap.get?_push_size _ rfl
  refine Calls.call_function_entry kind_sorted plain_sorted entry_sorted (args_sorted1 _) ?_
  unfold Builtin.«sorted»
  refine wpAny_bind (m := checkCount "sorted" 1 1 _) (wpAny_pure (wpAny_bind (coll_tup pt hzl (wpAny_bind (wpAny_newList ?_ hzl)))))
  refine wpAny_bind (wpAny_holding (wpAny_call_entry slot_list_sort ⟨_, hoL, rfl⟩ entry_list_sort (SrtO.list_sort_ord SrtO.swo_int hoL hzl (fun h2 => SrtO.ints_sortable hi h2) fun out h1 h2 => ⟨_, rfl, ?_⟩) (args_list_sort _)))
  obtain ⟨k1, k2, k3⟩ := SrtO.ints_out hi h1 h2
  obtain ⟨e9, he9⟩ := sortedHeap_at (vs := its) (out := out.toArray) hoL
  have kp : ∀ b o, s.heap.get? b = some o → (sortedHeap ((grown s.heap its).push (seqObj "list" its.toArray 0)) (grown s.heap its).objs.size its out.toArray).get? b = some o := fun b o e => by
    have lt := Heap.lt_size e
    rw [sortedHeap_old (by rw [z1]; exact Nat.ne_of_lt (Nat.lt_succ_of_lt lt)) (by rw [size_push', z1]; exact Nat.lt_succ_of_lt (Nat.lt_succ_of_lt lt))]
    refine Heap.get?_push_of_some _ ?_
    unfold grown
    rw [Heap.get?_update_ne _ _ _ _ (Nat.ne_of_lt lt)]
    exact Heap.get?_push_of_some _ e
  have hlen : ((out.map SrtO.iv).map V.int).length ≤ sizeLine := by
    have y := hz
    rw [List.length_map] at y ⊢
    rw [k2.length_eq]
    exact y
  have hge : s.heap.objs.size ≤ (grown s.heap its).objs.size := by rw [z1]; exact Nat.le_succ _
  exact wpAny_pure ⟨_, rfl, .ref _, upd H (grown s.heap its).objs.size (.lst ((out.map SrtO.iv).map V.int)), I.laid (t' := s.toks) kp hge ⟨hlen, out, e9, vals_of_ints k1, he9⟩, rfl, q _ _ k2 k3 (I.hok.fresh hge)⟩
/-! ### len(set(t)), t a tuple of ints -/
def InS (P : Program) (w : World) (a : Addr) (zs : List Int) : HO := .ext fun h => GS (PySem.intKind P w) h a zs
theorem ins_new {P : Program} {w : World} {H : Hp} {h : Heap} {a : Addr} {zs : List Int} (g : GS (PySem.intKind P w) h a zs) : ObjOk P w H h a (InS P w a zs) := by
  have ⟨o, _, _, _, _, ho, _⟩ := g
  exact ⟨g, ⟨o, ho⟩, fun h1 h2 p k => GS.at p k⟩
def rSetIT (K : PySem.W.Frag) (P : Program) (w : World) : List V → Hp → VK → Prop := fun xs H Q => ∃ (l : Addr) (zs : List Int), xs = [V.ref l] ∧ SqT K H l (zs.map V.int) ∧ zs.length ≤ 50 ∧ ∀ p, H p = none → Q (.ref p) (upd H p (InS P w p zs))
theorem cr_setIT (hc : X.calm = true) : CallR X (.type "set") (rSetIT X.K X.prog X.w) := by
  intro pins s σ H xs us Q I r h
  obtain ⟨l, zs, rfl, hl, hn, q⟩ := h
  rw [Vals.ref1 r]
  obtain ⟨its, rv, pt, _⟩ := I.tuple hl
  have hlen : its.length = zs.length := by
    rw [← rv.length, List.length_map]
  refine call_setT (kd := PySem.intKind X.prog X.w) zs (I.ok.hd hc) pt (by simpa using hlen) (fun i v hv => ?_) (Nat.lt_of_le_of_lt (Nat.succ_le_succ hn) (by decide)) fun h' tk g hk => ?_
  · have hv' : its[i]? = some v := by simpa using hv
    obtain ⟨x, hx, rx⟩ := vals_get rv hv'
    rw [List.getElem?_map] at hx
    cases ez : zs[i]? with
    | none =>
      rw [ez] at hx
      cases hx
    | some z =>
      rw [ez] at hx
      cases hx
      obtain ⟨t, rfl⟩ := rx
      exact ⟨z, rfl, intKind_is _ _ _ _, rfl⟩
  · exact ⟨.ref _, upd H s.heap.objs.size (InS X.prog X.w s.heap.objs.size zs), I.laid (t' := tk) hk (Nat.le_refl _) (ins_new g), rfl, q _ (I.hok.fresh (Nat.le_refl _))⟩
def rLenSI (P : Program) (w : World) : List V → Hp → VK → Prop := fun xs H Q => ∃ (a : Addr) (zs : List Int), xs = [V.ref a] ∧ H a = some (InS P w a zs) ∧ zs.length ≤ 50 ∧ ∀ js : List Int, js.Nodup → (∀ k, k ∈ js ↔ k ∈ zs) → Q (.int (js.length : Nat)) H
theorem cr_lenSI : CallR X (.builtin "len") (rLenSI X.prog X.w) := by
  intro pins s σ H vs us Q I r h
  obtain ⟨a, zs, rfl, ha, hn, q⟩ := h
  rw [Vals.ref1 r]
  obtain ⟨ob, es, ep, tb, js, o1, o2, o3, hp, nd, hm, hsz, hf, hr, hl⟩ := (I.hok a _ ha).1
  have e : es.size = js.length := by
    have := Paired.length hp
    rw [Array.length_toList] at this
    exact this
  refine call_len_set o1 o2 o3 hf (by omega) ⟨.int (js.length : Nat), H, I.tok _, ⟨_, by rw [e]⟩, q js nd hm⟩
end
end KwZ
set_option Elab.async false
set_option linter.all false
set_option maxRecDepth 100000
set_option maxHeartbeats 4000000
namespace KwZ
open PySem PySem.Spec PyProof.Rows L2 KwS
/-! ### sorted(s), s a set of ints -/
theorem ints_of : ∀ {vs : List Value} {zs : List Int}, Paired (fun v z => Value.isInt z v = true) vs zs → Vals (zs.map V.int) vs
  | _, _, .nil => .nil
  | _, _, .cons r t => by
    obtain ⟨tk, rfl⟩ := Value.isInt_shape r
    exact .cons ⟨tk, rfl⟩ (ints_of t)
section
variable {X : Cx}
def rSortSI (P : Program) (w : World) : List V → Hp → VK → Prop := fun vs H Q => ∃ (a : Addr) (zs : List Int), vs = [V.ref a] ∧ H a = some (InS P w a zs) ∧ zs.length ≤ 50 ∧
  ∀ (ys : List Int) (p : Addr), ys.Nodup → (∀ z, z ∈ ys ↔ z ∈ zs) → ys.Pairwise (· ≤ ·) → H p = none → Q (.ref p) (upd H p (.lst (ys.map V.int)))
theorem cr_sortSI (hc : X.calm = true) : CallR X (.builtin "sorted") (rSortSI X.prog X.w) := by
  intro pins s σ H vs us Q I r h
  obtain ⟨a, zs, rfl, ha, hn, q⟩ := h
  rw [Vals.ref1 r]
  obtain ⟨ob, es, ep, tb, js, o1, o2, o3, hp, nd, hm, hsz, hf, hr, hl⟩ := (I.hok a _ ha).1
  have h50 : es.size ≤ 50 := Nat.le_trans hsz hn
  refine Calls.call_function_entry kind_sorted plain_sorted entry_sorted (args_sorted1 _) ?_
  unfold Builtin.«sorted»
  refine wpAny_bind (m := checkCount "sorted" 1 1 _) (wpAny_pure (wpAny_bind (collect_set (A := X.A.in1) (I.ok.hd hc) ⟨ob, o1, o2.1, o3⟩ hf (Nat.lt_of_le_of_lt h50 (by decide)) hr hl fun s1 out k1 hz g1 os1 pm => ?_)))
  obtain ⟨js1, j1, j2⟩ := prd_perm pm (prd_map (f := Prod.snd) (F := fun v z => Value.isInt z v = true) (Paired.mapP hp fun e z x => x.1))
  have hi := (ints_of j2).ints
  have hol : out.length ≤ 50 := by
    rw [pm.length_eq, List.length_map, Array.length_toList]
    exact h50
  have hzl : out.length ≤ sizeLine := Nat.le_trans hol (by decide)
  refine wpAny_bind (wpAny_newList ?_ hzl)
  have hoL : (s1.heap.push (seqObj "list" out.toArray 0)).get? s1.heap.objs.size = some (seqObj "list" out.toArray 0) := Heap.get?_push_size _ rfl
  refine wpAny_bind (wpAny_holding (wpAny_call_entry slot_list_sort ⟨_, hoL, rfl⟩ entry_list_sort (SrtO.list_sort_ord SrtO.swo_int hoL hzl (fun h2 => SrtO.ints_sortable hi h2) fun os h1 h2 => ⟨_, rfl, ?_⟩) (args_list_sort _)))
  obtain ⟨y1, y2, y3⟩ := SrtO.ints_out hi h1 h2
  obtain ⟨e9, he9⟩ := sortedHeap_at (vs := out) (out := os.toArray) hoL
  have hlen : ((os.map SrtO.iv).map V.int).length ≤ sizeLine := by
    rw [List.length_map, y2.length_eq, ← Paired.length j2]
    exact hzl
  have kp : ∀ b o, s.heap.get? b = some o → (sortedHeap (s1.heap.push (seqObj "list" out.toArray 0)) s1.heap.objs.size out os.toArray).get? b = some o := fun b o e => by
    have z := k1 b o e
    have lt := Heap.lt_size z
    rw [sortedHeap_old (Nat.ne_of_lt lt) (by rw [size_push']; exact Nat.lt_succ_of_lt lt)]
    exact Heap.get?_push_of_some _ z
  have hno : H s1.heap.objs.size = none := I.hok.fresh hz
  have hob : ObjOk X.prog X.w (upd H s1.heap.objs.size (.lst ((os.map SrtO.iv).map V.int))) (sortedHeap (s1.heap.push (seqObj "list" out.toArray 0)) s1.heap.objs.size out os.toArray) s1.heap.objs.size (.lst ((os.map SrtO.iv).map V.int)) := ⟨hlen, os, e9, vals_of_ints y1, he9⟩
  generalize hG : sortedHeap (s1.heap.push (seqObj "list" out.toArray 0)) s1.heap.objs.size out os.toArray = G at kp hob
  have J : Inv X pins σ (upd H s1.heap.objs.size (.lst ((os.map SrtO.iv).map V.int))) { s with heap := G, gens := s1.gens, drawn := s1.drawn, toks := s1.toks } := I.call (ch := []) (Un.laid kp hz hno) (I.hok.laid kp hz hob) (by rw [g1]; exact I.bare) (fun _ z => nomatch z)
  have e1 : ({ s1 with heap := G } : Shared) = { s with heap := G, gens := s1.gens, drawn := s1.drawn, toks := s1.toks } := by
    obtain ⟨a1, a2, a3, a4, a5⟩ := s1
    obtain ⟨b1, b2, b3, b4, b5⟩ := s
    cases (show a5 = b5 from os1)
    rfl
  refine wpAny_pure ⟨_, rfl, ?_⟩
  show EP X pins σ Q _ ({ s1 with heap := G } : Shared)
  rw [e1]
  exact ⟨.ref s1.heap.objs.size, _, J, rfl, q _ _ (y2.nodup_iff.mpr (j1.nodup_iff.mpr nd)) (fun z => (y2.mem_iff.trans j1.mem_iff).trans (hm z)) y3 hno⟩
end
end KwZ
set_option Elab.async false
set_option linter.all false
set_option maxRecDepth 100000
set_option maxHeartbeats 4000000
/-! an error class with its own __init__, raised where nothing is handled (L2N) -/
namespace KwX
open PySem PySem.Spec PyProof.Rows L2
theorem mk_init {X : Cx} {CX : CXT} {nm0 : Str} {C fI : Addr} {k : Nat} {fd : FuncData} {ps : List Str} {sp : Sp} {e0 : Expr} {es0 : List Expr} {ta : TA} {pA pB : Pos} {ds : List Value} {dvs : List V}
    (O : OexC X.K C) (fi : PySem.W.findIn X.K (.ref C) "__init__" = some (some (.ref fI))) (fty : PySem.W.typeIn X.K (.ref fI) = some (.type "function"))
    (G1 : FnOk X.prog X.w X.K X.mg X.base CX k fI fd ps sp) (room : Room (k + 1) X.A) (bn : Binds X.K fd ps ds) (vds : Vals dvs ds) (pass : Passes CX X (fun _ _ _ => False)) (gl : Gl X nm0) (mx : X.mg nm0 = some (.ref C)) (args : PA X (e0 :: es0) ta)
    (ndb : (nm0 == ("__debug__" : Str)) = false := by decide) (st1 : starEach (e0 :: es0) X.env = (false, eval e0 X.env) :: starEach es0 X.env := by rfl) (st2 : (backTo pB (starEach es0 X.env)).any (·.1) = false := by rfl) :
    L2N.PMk X (.Call (.Name nm0 pA) (e0 :: es0) [] pB) (tMkO C sp dvs ta) := by
  intro pins s0 τ G Q J want
  obtain ⟨c1, c2, c3, c4, c5, c6, c7, c8, c9, c10, c11, c12, c13, c14, c15, lkC, chain⟩ := O.cls
  refine wpAny_Call_Name_kw (ld_glob J gl mx ?_ ndb)
  refine PySem.W.callWith_K (h₀ := X.base) J.ok.mod.kin O.kC (thn (args.run pB pins s0 τ G _ J want) fun us s1 ⟨vs, G1', J1, rel1, small, want1⟩ => ⟨J1.kIn, ?_⟩) st1 st2
  show wpAny _ _ (call (.ref C) us) _ _ _
  obtain ⟨hp, gn, dr, tk, os⟩ := s1
  have big : hp.objs.size ≤ hp.objs.size + 1 := Nat.le_succ _
  have free1 : G1' (hp.objs.size + 1) = none := J1.hok.fresh big
  have ask := want1 (hp.objs.size + 1) free1
  have old : ∀ b o, hp.get? b = some o → ((hp.push (PySem.W.kdv_tup us)).push (PySem.HandSPX.excO C hp.objs.size)).get? b = some o := fun b o e => Heap.get?_push_of_some _ (Heap.get?_push_of_some _ e)
  have there : ((hp.push (PySem.W.kdv_tup us)).push (PySem.HandSPX.excO C hp.objs.size)).get? (hp.objs.size + 1) = some (PySem.HandSPX.excO C hp.objs.size) := by heap_get
  have J2 : Inv X pins τ (upd G1' (hp.objs.size + 1) (exo (hp.objs.size + 1) C none)) ⟨(hp.push (PySem.W.kdv_tup us)).push (PySem.HandSPX.excO C hp.objs.size), gn, dr, tk, os⟩ :=
    J1.laid (t' := tk) (a := hp.objs.size + 1) (o := exo (hp.objs.size + 1) C none) (h' := (hp.push (PySem.W.kdv_tup us)).push (PySem.HandSPX.excO C hp.objs.size)) old big (exo_ok there)
  have rel2 : Vals (V.ref (hp.objs.size + 1) :: (vs ++ dvs)) (Value.ref (hp.objs.size + 1) :: (us ++ ds)) := .cons rfl (rel1.append vds)
  have lens : (Value.ref (hp.objs.size + 1) :: us ++ ds).length = ps.length := (rel2.length.symm.trans (G1.len _ _ _ _ ask))
  have few : us.length ≤ sizeLine := by rw [← Paired.length rel1, sizeLine_eq]; omega
  refine wpAny_call (PySem.HandSPX.call_own F.excBase_ValueError (fun Y => PySem.HandSPX.refsVE_contains Y c5 chain) (J1.kIn _ _ lkC) (PySem.W.looks_findIn J1.kIn fi) (fun self => PySem.W.bind_fn J1.kIn self fty) few
    (codeAny_mono (G1.run _ X.stack _ _ ⟨Value.ref (hp.objs.size + 1) :: us, []⟩ (Value.ref (hp.objs.size + 1) :: (us ++ ds)) _ _ (fun _ _ _ => False) (room.make C us []) (J2.env0.make C us []) (bn _ (Value.ref (hp.objs.size + 1) :: us) J2.kIn lens) rel2 ask) fun r s' got => ?_))
  match r, got with
  | .error er, got => exact pass pins τ _ _ er s' J2 got
  | .ok .next, got => exact got.elim
  | .ok .brk, got => exact got.elim
  | .ok .cont, got => exact got.elim
  | .ok (.ret u), got =>
    obtain ⟨v, G2, eos, bare2, un2, hok2, rv, ev, dd, fs, ea, ed, fr, last⟩ := got
    subst ev
    obtain ⟨h2, g2, d2, t2, os2⟩ := s'
    obtain ⟨t0, Gh, J3, kG, gone, obj, na⟩ := mk_end0 (d2 := d2) (t2 := t2) J1 big old un2 hok2 eos bare2 ea ed fr
    exact ⟨rv, hp.objs.size + 1, _, _, ⟨Gh, g2, d2, t2, os2⟩, _, .ref C, some dd, rfl, J3, kG, gone, obj, ⟨rfl, rfl, fun vs hv => by cases hv; rfl⟩, rfl, rfl, na, rfl, bare2, raises_own O.exC O.tyC, last⟩
end KwX
set_option Elab.async false
set_option linter.all false
set_option maxRecDepth 100000
set_option maxHeartbeats 4000000
/-! isinstance of a caught error that has a dict -/
namespace KwX
open PySem PySem.Spec PySem.Calls PyProof.Rows PySem.W
section
variable {prog : Program} {w : World} {A : Around} {E : Value → Shared → Prop} {s : Shared} {K : Frag} {x D : Addr} {ox : Obj} {od : Option Obj}
theorem cls_find {C : Addr} {nm : Str} {a g : Value} (some_ : (clsIn K C).isSome = true) (f1 : findIn K (.ref C) nm = some (some a)) (f2 : specialIn K a "__get__" = some (some g)) (f3 : takesIn K a = some true) : findObj K C od nm = some (.bind g a) := by
  obtain ⟨cd, e⟩ := Option.isSome_iff_exists.mp some_
  unfold findObj; rw [e, Option.bind_some, f1, Option.bind_some]; simp [f2, f3]
theorem cls_of {Q : Option Value → Shared → Prop} (T : L2.ExcC K D) (X : K.In s.heap) (I : InstAt s.heap x ox D od) (h : Q (some (.ref D)) { s with toks := s.toks + 1 }) : wpAny (model prog w) A (getAttr? (.ref x) "__class__") Q E s := by
  have fo : findObj K D od "__class__" = some (.bind (.builtin "getset_descriptor.__get__") (.builtin "object.__class__")) := cls_find (by obtain ⟨cd, e, _⟩ := any_some T.hd; rw [e]; rfl) T.ha T.hn T.ht
  obtain ⟨hp, gn, dr, tk, os⟩ := s
  have M0 := I.type (M := model prog w)
  have M1 := looks_findIn (M := model prog w) X T.hg
  have M2 := looks_findIn (M := model prog w) X T.hk
  have M3 := looks_find (M := model prog w) X I fo
  have isB : Looks (model prog w) hp (isInstance (.ref x) (.type "BaseException")) true := M0.andThen (looks_subIn X T.hs)
  have n0 : (false && onTheHeap (Value.builtin "BaseException.__getattribute__")) = false := rfl
  have n2 : (Value.builtin "BaseException.__getattribute__" == Value.builtin "object.__getattribute__") = false := by decide +kernel
  have n1 : (onTheHeap (Value.ref D) && Value.builtin "BaseException.__getattribute__" == Value.builtin "object.__getattribute__") = false := by rw [n2]; rfl
  unfold getAttr? getAttrBy? getAttrBy; refine wpAny_bind (wpAny_mkText (wpAny_bind (wpAny_attempt (wpAny_holding (wpAny_bind (M0.at (wpAny_bind (M1.at ?_))))))))
  show wpAny _ _ (if (onTheHeap (Value.ref D) && Value.builtin "BaseException.__getattribute__" == Value.builtin "object.__getattribute__") = true then _ else _) _ _ _; rw [n1, if_neg Bool.false_ne_true]
  unfold getAttrByItsOwn hookBefore; refine wpAny_bind ?_; rw [if_pos (show onTheHeap (Value.ref D) = true from rfl)]
  refine M2.at (wpAny_bind (wpAny_attempt (wpAny_holding ?_))); unfold callGetattribute; rw [n0, if_neg Bool.false_ne_true]
  unfold boundAndCalled; rw [PySem.F.excAttr_ValueError.ga.bind (.ref x)]; refine wpAny_bind (wpAny_pure ?_)
  show wpAny _ _ (call (.builtin "BaseException.__getattribute__") [.ref x, .str "__class__" tk]) _ _ _; refine wpAny_call (codeAny_call_builtin PySem.F.excAttr_ValueError.ga.plain PySem.F.entry_bexc_ga ?_)
  refine @check_slot (model prog w) _ _ ⟨hp, gn, dr, tk + 1, os⟩ "BaseException.__getattribute__" "BaseException" "__getattribute__" (.ref x) [.str "__class__" tk] [] _ (by decide +kernel) (by decide +kernel) isB (PySem.F.args_bexc_ga (.ref x) (.str "__class__" tk)) ?_
  unfold Builtin.«object.__getattribute__»; refine wpAny_bind (wpAny_of_eq (a := ((Value.ref x : Value), [Value.str "__class__" tk])) (by first | rfl | (simp only [slotArgs]; rfl)) ?_)
  refine wpAny_bind (wpAny_pure (wpAny_bind (M0.at (wpAny_bind (M3.at ?_)))))
  show wpAny _ _ (holding [Value.builtin "object.__class__"] (call (.builtin "getset_descriptor.__get__") [.builtin "object.__class__", .ref x, .ref D]) >>= ret) _ _ _; refine wpAny_bind (wpAny_holding (wpAny_call (class_get (s := ⟨hp, gn, dr, tk + 1, os⟩) (ox := ox) (od := od) X I T.hm (wpAny_pure ?_))))
  show wpAny _ _ (handedOut (.ref D)) _ _ _; rw [handedOut_of (v := .ref D) rfl]
  first
    | exact wpAny_pure (wpAny_pure h) | exact wpAny_pure h | exact wpAny_pure (wpAny_bind (wpAny_pure (wpAny_pure h)))
theorem kit_dict (T : L2.ExcC K D) : KitX K (.ref x) (.ref D) (fun h => InstAt h x ox D od) where
  ty := fun _ _ _ I => I.type
  it := fun _ _ X _ => by
    obtain ⟨cd0, e0, _⟩ := any_some T.hd; unfold clsIn at e0
    split at e0
    · rename_i lk; intro A1 Q1 E1 s1 kp q; unfold isType loadHead; exact wpAny_bind (wpAny_loadPart (kp _ _ (X _ _ lk)) (wpAny_pure q))
    · cases e0
  ne := (handS_kitx_exc (ox := ox) (x := x) T.hg T.hk T.hs T.hd T.ha T.hn T.ht T.hm).ne
  ca := fun X I k => cls_of T X I k
end
end KwX
namespace KwX
open PySem PySem.Spec PyProof.Rows L2
/-- isinstance(e, c), e the error that the suite holds, with its dict -/
def rIsD (K : PySem.W.Frag) (D a : Addr) (d : Option Addr) : List V → Hp → VK → Prop := fun xs H Q => ∃ (c : V) (cv : Value) (b : Bool) (dd : Addr) (fs : List (Str × V)), xs = [.ref a, c] ∧ d = some dd ∧ H dd = some (.xd fs) ∧ (∀ u, RelV c u → u = cv) ∧ PySem.W.kitOne K (.ref D) cv = some b ∧ Q (.bl b) H
theorem call_isD {X : Cx} {a D : Addr} {d : Option Addr} {oe : Obj} {pn : List (Addr × Obj)} (T : ExcC X.K D) (zc : Zc (.ref D) d oe) (flds : ∃ vs, oe.data = .fields vs) : CallR (X.suite a ((a, oe) :: pn)) (.builtin "isinstance") (rIsD X.K D a d) := by
  intro pins s σ H xs us Q I r h
  obtain ⟨c, cv, b, dd, fs, rfl, rfl, hdd, only, kit, q⟩ := h
  match us, r with
  | [_, _], .cons rx (.cons rt .nil) =>
    cases rx
    have ec := only _ rt
    subst ec
    obtain ⟨stands, _⟩ := I.pin (a, oe) (List.mem_append.mpr (.inl List.mem_cons_self))
    obtain ⟨vs, hv⟩ := flds
    have ok0 : ObjOk X.prog X.w H s.heap dd (.xd fs) := I.hok dd _ hdd
    obtain ⟨m0, ns0, _⟩ := ok0
    obtain ⟨od, hod, _⟩ := lookIn_ns ns0
    have J : PySem.W.InstAt s.heap a oe D (some od) := ⟨stands, zc.1, by unfold PySem.W.notCls; rw [hv] <;> rfl, by rw [zc.2]; exact hod⟩
    exact PySem.W.kia_one (kit_dict T) I.kIn J kit (fun z => nomatch z) fun tk => ⟨.bl b, H, I.kept (t' := tk) fun _ _ z => z, rfl, q⟩
end KwX
set_option Elab.async false
set_option linter.all false
set_option maxRecDepth 100000
set_option maxHeartbeats 4000000
namespace Kw
open PySem PySem.Spec PyProof.Rows L2 Evl KwX NdefX LamX
abbrev sRef : Stmt := topS 52
theorem scRef : FnScope ["call", "one", "two", "three", "kin", "e", "words", "word", "there"] ["call", "one", "two", "three"] (defScope sRef) := ⟨rfl, rfl, rfl, by decide +kernel, rfl, by decide +kernel, by decide +kernel⟩
def cnames : List Str := ["NoHouse", "NoColour", "NoRow", "NoBoxes", "NoLaying", "NoNumber", "NoBox", "NoKey", "Locks", "Unlike", "Open", "Shut", "Full", "NothingLeft"]
def nmC (i : Nat) : Str := cnames.getD i default
def resV (bs : Nat → Bool) : List V := (((List.range 14).filter bs).map fun i => V.str (nmC i)) ++ [.bl true]
/-- what the names that _law_refused looks up are; C: the class that was raised -/
structure RefT (K : PySem.W.Frag) (mg : Str → Option Value) (C : Addr) (d : Nat → Addr) (bs : Nat → Bool) (dT dL dB : Addr) : Prop where
  mT : mg "TooMany" = some (.ref dT)
  mL : mg "Locked" = some (.ref dL)
  mB : mg "BoxError" = some (.ref dB)
  m : ∀ i, i < 14 → mg (nmC i) = some (.ref (d i))
  eT : PySem.W.exmOne K (.ref C) (.ref dT) = some false
  eL : PySem.W.exmOne K (.ref C) (.ref dL) = some false
  eB : PySem.W.exmOne K (.ref C) (.ref dB) = some true
  kit : ∀ i, i < 14 → PySem.W.kitOne K (.ref C) (.ref (d i)) = some (bs i)
  kitV : PySem.W.kitOne K (.ref C) (.type "ValueError") = some true
  ec : ExcC K C
  isi : mg "isinstance" = none
  ve : mg "ValueError" = none
theorem takes0N {X : Cx} : L2N.Takes X (fun _ _ _ _ => False) := fun _ _ x => by
  obtain ⟨_, _, _, _, _, _, _, _, _, _, _, _, _, _, _, _, z⟩ := x
  exact z.elim
theorem pss_pre {X : Cx} {l : List Stmt} {t : TS} {φ : Prop} (h : φ → PSs X l t) : PSs X l (fun D σ H => φ ∧ t D σ H) := ⟨fun pins s σ H D I w => (h w.1).run pins s σ H D I w.2⟩
theorem pss_no {X : Cx} {l : List Stmt} : PSs X l (fun _ _ _ => False) := ⟨fun _ _ _ _ _ _ w => False.elim w⟩
section
variable (K : PySem.W.Frag) (C a : Addr) (d : Nat → Addr)
def tIsC (v : V) : TE := tCB (rIsE K C a) (tCons (tVar 5) (tCons (tC v) tNil))
def tPr (i : Nat) : TE := tTup (tCons (tC (.str (nmC i))) (tCons (tIsC K C a (.ref (d i))) tNil))
def tW1 (i : Nat) : TS := tAsg (tOp rCat (tVar 6) (tLst (tCons (tPr K C a d i) tNil))) (gName 6)
def tW2 (i : Nat) : TS := tAsg (tOp rCat (tVar 6) (tLst (tCons (tPr K C a d i) (tCons (tPr K C a d (i + 1)) tNil)))) (gName 6)
def tKin : TS := tAsg (tOp rCat (tLc (iList K (tVar 6)) (gTup K 2 (gCons (gName 7) (gCons (gName 8) gNil))) (tB (tVar 8)) (tVar 7) [7, 8]) (tLst (tCons (tIsC K C a (.ty "ValueError")) tNil))) (gName 4)
def tSui : TS := tSeq (tAsg (tLst (tCons (tPr K C a d 0) (tCons (tPr K C a d 1) tNil))) (gName 6)) (tSeq (tW1 K C a d 2) (tSeq (tW2 K C a d 3) (tSeq (tW2 K C a d 5) (tSeq (tW2 K C a d 7) (tSeq (tW1 K C a d 9) (tSeq (tW2 K C a d 10) (tSeq (tW1 K C a d 12)
  (tSeq (tDrop (tBM K "list" rAppend (tVar 6) (tCons (tPr K C a d 13) tNil))) (tKin K C a)))))))))
end
theorem boot_ValueError : bootBuiltins "ValueError" = some (.type "ValueError") := by decide +kernel
def spRef (K : PySem.W.Frag) (mk : Addr → NF) (b : Expr) (spL : Sp) (C : Addr) (bs : Nat → Bool) : Sp := fun vs H Q _ => ∃ (f c' : Addr) (v1 v2 v3 : V), vs = [.ref f, v1, v2, v3] ∧ H f = some (LamO f (mk c') b) ∧ H (mk c').c = some (CodeO (mk c').c (mk c').qual) ∧
  (∀ H1, Ex H H1 → ∀ (Q' : VK) (E' : XK), (∀ H2, Ex H1 H2 → E' (.ref C) none H2) → spL [v1, v2, v3] H1 Q' E') ∧ ∀ p H2, H p = none → Ex H H2 → H2 p = some (.lst (resV bs)) → Q (.ref p) H2
section
variable {P : Program} {w : World} {K : PySem.W.Frag} {mg : Str → Option Value} {base : Heap}
def tRef (K : PySem.W.Frag) (mk : Addr → NF) (b : Expr) (spL : Sp) (C : Addr) (d : Nat → Addr) (dT dL dB : Addr) : TS :=
  tSeq (tAsg (tLst tNil) (gName 4)) (tSeq (fun D σ H => tDrop (tCallV mk b 0 spL (fun σ => WE (wAsM K 5 (fun _ _ _ _ => False) D [(.ref dT, fun _ _ _ => (fun _ _ _ => False)), (.ref dL, fun _ _ _ => (fun _ _ _ => False)), (.ref dB, fun a cls dd => fun D σ H => (cls = .ref C ∧ dd = none) ∧ tSui K C a d D σ H)]) σ)
    (tCons (tVar 1) (tCons (tVar 2) (tCons (tVar 3) tNil)))) D σ H) (tRet (tVar 4)))
theorem ok_ref' {f : Addr} {fd : FuncData} {k : Nat} {mk : Addr → NF} {b : Expr} {ps : List Str} {spL : Sp} {C dT dL dB : Addr} {d : Nat → Addr} {bs : Nat → Bool} (F : Fun K "_law_refused" "_law_refused" sRef f fd) (T : RefT K mg C d bs dT dL dB) (L : ∀ c', LOk P w K mg base (L2N.CX P w) k (mk c') b ps spL)
    (core : ∀ (f c' : Addr) (v1 v2 v3 : V) (H : Hp) (Q : VK) (nx bk ct : L2.St → Hp → Prop), H f = some (LamO f (mk c') b) → H (mk c').c = some (CodeO (mk c').c (mk c').qual) → ((∀ H1, Ex H H1 → ∀ (Q' : VK) (E' : XK), (∀ H2, Ex H1 H2 → E' (.ref C) none H2) → spL [v1, v2, v3] H1 Q' E')) → (∀ p H2, H p = none → Ex H H2 → H2 p = some (.lst (resV bs)) → Q (.ref p) H2) →
      tRef K mk b spL C d dT dL dB ⟨nx, Q, bk, ct⟩ [some (.ref f), some v1, some v2, some v3, none, none, none, none, none] H) : FnOk P w K mg base CX0 (k + 1) f fd ["call", "one", "two", "three"] (spRef K mk b spL C bs) := by
  refine F.ok scRef (fun vs H Q E h => ?_) (fun cdv A outer s H vs Q E hr h => ?_)
  · obtain ⟨f, c', v1, v2, v3, rfl, _⟩ := h
    rfl
  · obtain ⟨f, c', v1, v2, v3, rfl, hf, hc, q, qq⟩ := h
    refine ⟨tRef K mk b spL C d dT dL dB, pss_cons (ps_set (i := 4) scRef.nd rfl (.inl rfl) (pe_lst pa_nil))
      (pss_cons (ps_try_asM (j := 5) (n := "e") (Wo := fun _ _ _ _ => False) (tb := fun W => tDrop (tCallV mk b 0 spL (fun σ => WE W σ) (tCons (tVar 1) (tCons (tVar 2) (tCons (tVar 3) tNil))))) rfl rfl scRef.nd rfl rfl takes0N
        (fun W pp xe tk _ => pss_one (ps_expr (pe_callV (E := fun σ => WE W σ) (j := k) L hr (Nat.le_refl k) (fun σ => L2N.passAt tk σ) rfl (.inl rfl) (pa_cons (pv 1) (pa_cons (pv 2) (pa_cons (pv 3) pa_nil))))))
        (.cons ⟨rfl, by decide, .inl T.mT⟩ (fun _ _ _ _ _ _ _ => pss_no) (.cons ⟨rfl, by decide, .inl T.mL⟩ (fun _ _ _ _ _ _ _ => pss_no) (.cons ⟨rfl, by decide, .inl T.mB⟩ (fun a oe cls dd pn hz hfs => pss_pre fun hcd => ?_) .nil))))
      (pss_one (ps_ret (pv 4)))), core f c' v1 v2 v3 H _ _ _ _ hf hc q qq⟩
    obtain ⟨rfl, rfl⟩ := hcd
    have hot : ∀ X : Cx, L2H.HotC (X.suite a ((a, oe) :: pn)) := fun X => by
      obtain ⟨vs, hv⟩ := hfs
      exact ⟨(a, oe), ⟨rfl, vs, hv, hz.2.2 vs hv⟩, List.mem_cons_self⟩
    have isE := fun (X : Cx) (ec : ExcC X.K C) => call_isE (X := X) (a := a) (pn := pn) ec hz.zc hfs
    exact (pss_cons (ps_set (i := 6) scRef.nd rfl (.inl rfl) (pe_lst (pa_cons (pe_tup (pa_cons pe_str (pa_cons (pe_callB (isE _ T.ec) (by rfl) T.isi boot_isinstance (pa_cons (pv 5) (pa_cons (pe_glob (v := .ref (d 0)) (by rfl) (T.m 0 (by decide)) rfl) pa_nil))) pa_nil))) (pa_cons (pe_tup (pa_cons pe_str (pa_cons (pe_callB (isE _ T.ec) (by rfl) T.isi boot_isinstance (pa_cons (pv 5) (pa_cons (pe_glob (v := .ref (d 1)) (by rfl) (T.m 1 (by decide)) rfl) pa_nil))) pa_nil))) pa_nil))))
          (pss_cons (ps_set (i := 6) scRef.nd rfl (.inl rfl) (pe_op op_cat (pv 6) (pe_lst (pa_cons (pe_tup (pa_cons pe_str (pa_cons (pe_callB (isE _ T.ec) (by rfl) T.isi boot_isinstance (pa_cons (pv 5) (pa_cons (pe_glob (v := .ref (d 2)) (by rfl) (T.m 2 (by decide)) rfl) pa_nil))) pa_nil))) pa_nil))))
          (pss_cons (ps_set (i := 6) scRef.nd rfl (.inl rfl) (pe_op op_cat (pv 6) (pe_lst (pa_cons (pe_tup (pa_cons pe_str (pa_cons (pe_callB (isE _ T.ec) (by rfl) T.isi boot_isinstance (pa_cons (pv 5) (pa_cons (pe_glob (v := .ref (d 3)) (by rfl) (T.m 3 (by decide)) rfl) pa_nil))) pa_nil))) (pa_cons (pe_tup (pa_cons pe_str (pa_cons (pe_callB (isE _ T.ec) (by rfl) T.isi boot_isinstance (pa_cons (pv 5) (pa_cons (pe_glob (v := .ref (d 4)) (by rfl) (T.m 4 (by decide)) rfl) pa_nil))) pa_nil))) pa_nil)))))
          (pss_cons (ps_set (i := 6) scRef.nd rfl (.inl rfl) (pe_op op_cat (pv 6) (pe_lst (pa_cons (pe_tup (pa_cons pe_str (pa_cons (pe_callB (isE _ T.ec) (by rfl) T.isi boot_isinstance (pa_cons (pv 5) (pa_cons (pe_glob (v := .ref (d 5)) (by rfl) (T.m 5 (by decide)) rfl) pa_nil))) pa_nil))) (pa_cons (pe_tup (pa_cons pe_str (pa_cons (pe_callB (isE _ T.ec) (by rfl) T.isi boot_isinstance (pa_cons (pv 5) (pa_cons (pe_glob (v := .ref (d 6)) (by rfl) (T.m 6 (by decide)) rfl) pa_nil))) pa_nil))) pa_nil)))))
          (pss_cons (ps_set (i := 6) scRef.nd rfl (.inl rfl) (pe_op op_cat (pv 6) (pe_lst (pa_cons (pe_tup (pa_cons pe_str (pa_cons (pe_callB (isE _ T.ec) (by rfl) T.isi boot_isinstance (pa_cons (pv 5) (pa_cons (pe_glob (v := .ref (d 7)) (by rfl) (T.m 7 (by decide)) rfl) pa_nil))) pa_nil))) (pa_cons (pe_tup (pa_cons pe_str (pa_cons (pe_callB (isE _ T.ec) (by rfl) T.isi boot_isinstance (pa_cons (pv 5) (pa_cons (pe_glob (v := .ref (d 8)) (by rfl) (T.m 8 (by decide)) rfl) pa_nil))) pa_nil))) pa_nil)))))
          (pss_cons (ps_set (i := 6) scRef.nd rfl (.inl rfl) (pe_op op_cat (pv 6) (pe_lst (pa_cons (pe_tup (pa_cons pe_str (pa_cons (pe_callB (isE _ T.ec) (by rfl) T.isi boot_isinstance (pa_cons (pv 5) (pa_cons (pe_glob (v := .ref (d 9)) (by rfl) (T.m 9 (by decide)) rfl) pa_nil))) pa_nil))) pa_nil))))
          (pss_cons (ps_set (i := 6) scRef.nd rfl (.inl rfl) (pe_op op_cat (pv 6) (pe_lst (pa_cons (pe_tup (pa_cons pe_str (pa_cons (pe_callB (isE _ T.ec) (by rfl) T.isi boot_isinstance (pa_cons (pv 5) (pa_cons (pe_glob (v := .ref (d 10)) (by rfl) (T.m 10 (by decide)) rfl) pa_nil))) pa_nil))) (pa_cons (pe_tup (pa_cons pe_str (pa_cons (pe_callB (isE _ T.ec) (by rfl) T.isi boot_isinstance (pa_cons (pv 5) (pa_cons (pe_glob (v := .ref (d 11)) (by rfl) (T.m 11 (by decide)) rfl) pa_nil))) pa_nil))) pa_nil)))))
          (pss_cons (ps_set (i := 6) scRef.nd rfl (.inl rfl) (pe_op op_cat (pv 6) (pe_lst (pa_cons (pe_tup (pa_cons pe_str (pa_cons (pe_callB (isE _ T.ec) (by rfl) T.isi boot_isinstance (pa_cons (pv 5) (pa_cons (pe_glob (v := .ref (d 12)) (by rfl) (T.m 12 (by decide)) rfl) pa_nil))) pa_nil))) pa_nil))))
          (pss_cons (ps_expr (pe_bm PySem.F.plainAttrs_list PySem.F.slot_list_append PySem.F.type_list_append mt_append (pv 6) (pa_cons (pe_tup (pa_cons pe_str (pa_cons (pe_callB (isE _ T.ec) (by rfl) T.isi boot_isinstance (pa_cons (pv 5) (pa_cons (pe_glob (v := .ref (d 13)) (by rfl) (T.m 13 (by decide)) rfl) pa_nil))) pa_nil))) pa_nil)))
          (pss_one (ps_set (i := 4) scRef.nd rfl (.inl rfl) (pe_op op_cat (pe_lcH (own := [("word", 7), ("there", 8)]) (g := gTup K 2 (gCons (gName 7) (gCons (gName 8) gNil))) (tt := tB (tVar 8)) (te := tVar 7) (hot _) scRef.nd (pi_listH (pv 6)) (blkOk_by (N := ["call", "one", "two", "three", "kin", "e", "words", "word", "there"]) (sc := defScope sRef) (by decide +kernel))
          (fun _ _ _ _ _ => pg_tupH (hot _) (pgs_cons (pg_name (i := 7) scRef.nd rfl (.inl rfl)) (pgs_cons (pg_name (i := 8) scRef.nd rfl (.inl rfl)) pgs_nil))) (fun _ _ _ _ _ => pts_one (pt_val (pv 8))) (fun _ _ _ _ _ => pv 7))
          (pe_lst (pa_cons (pe_callB (isE _ T.ec) (by rfl) T.isi boot_isinstance (pa_cons (pv 5) (pa_cons (pe_bltn (v := .ty "ValueError") (by rfl) T.ve boot_ValueError rfl) pa_nil))) pa_nil))))))))))))))
end
end Kw
set_option Elab.async false
set_option linter.all false
set_option maxRecDepth 100000
set_option maxHeartbeats 4000000
namespace Kw
open PySem PySem.Spec PyProof.Rows L2 Evl KwX NdefX LamX
def PairAt (K : PySem.W.Frag) (bs : Nat → Bool) (H : Hp) (v : V) (i : Nat) : Prop := ∃ t, v = .ref t ∧ SqT K H t [.str (nmC i), .bl (bs i)]
def WdAt (K : PySem.W.Frag) (bs : Nat → Bool) (H : Hp) (l : Addr) (n : Nat) : Prop := ∃ vs, H l = some (.lst vs) ∧ Paired (PairAt K bs H) vs (List.range n)
section
variable {K : PySem.W.Frag} {mg : Str → Option Value} {C a dT dL dB : Addr} {d : Nat → Addr} {bs : Nat → Bool} {σ : L2.St} {H H' : Hp} {D : Ends} {tz : TS}
theorem PairAt.ex {v : V} {i : Nat} (e : Ex H H') (h : PairAt K bs H v i) : PairAt K bs H' v i := by
  obtain ⟨t, h1, h2⟩ := h
  exact ⟨t, h1, ex_t e h2⟩
theorem ev_isC (T : RefT K mg C d bs dT dL dB) (h5 : σ[5]? = some (some (.ref a))) {i : Nat} (hi : i < 14) : Ev (tIsC K C a (.ref (d i))) σ H (.bl (bs i)) := fun H1 e Q q =>
  ⟨.ref a, h5, .ref (d i), .ref (d i), bs i, rfl, fun u r => r, T.kit i hi, q H1 (Ex.refl H1)⟩
theorem ev_isV (T : RefT K mg C d bs dT dL dB) (h5 : σ[5]? = some (some (.ref a))) : Ev (tIsC K C a (.ty "ValueError")) σ H (.bl true) := fun H1 e Q q =>
  ⟨.ref a, h5, .ty "ValueError", .type "ValueError", true, rfl, fun u r => r, T.kitV, q H1 (Ex.refl H1)⟩
theorem eu_pr (T : RefT K mg C d bs dT dL dB) (h5 : σ[5]? = some (some (.ref a))) {i : Nat} (hi : i < 14) : EvU (tPr K C a d i) σ H [.str (nmC i), .bl (bs i)] :=
  eu_tup (ea_cons ev_c (ea_cons (ev_isC T h5 hi) ea_nil)) (by show 2 ≤ 100000; decide)
theorem q_cat1U {te : TE} {xs vs : List V} {i j : Nat} {l : Addr} (h : EvU te σ H xs) (hj : σ[j]? = some (some (.ref l))) (hl : H l = some (.lst vs)) (len : vs.length ≤ 1000) (k : ∀ r t H1, H r = none → Ex H H1 → H1 t = some (.tup xs) → H1 r = some (.lst (vs ++ [.ref t])) → tz D (σ.set i (some (.ref r))) H1) :
    tSeq (tAsg (tOp rCat (tVar j) (tLst (tCons te tNil))) (gName i)) tz D σ H := by
  refine ⟨.ref l, hj, h H (Ex.refl H) _ fun t H1 nt e1 ht => ⟨by show 1 ≤ sizeLine; decide, fun q hq => ⟨l, q, vs, [.ref t], rfl, rfl, (Ex.new hq) _ _ (e1 _ _ hl), upd_same, sz_of (by rw [List.length_singleton]; omega), fun r hr => ?_⟩⟩⟩
  have e2 := (Ex.new (o := .lst [.ref t]) hq).trans (Ex.new (o := .lst (vs ++ [.ref t])) hr)
  exact k r t _ (fresh_back (e1.trans (Ex.new hq)) hr) (e1.trans e2) (e2 _ _ ht) upd_same
theorem q_cat2U {te tu : TE} {xs ys vs : List V} {i j : Nat} {l : Addr} (h : EvU te σ H xs) (h' : ∀ H1, EvU tu σ H1 ys) (hj : σ[j]? = some (some (.ref l))) (hl : H l = some (.lst vs)) (len : vs.length ≤ 1000)
    (k : ∀ r t u H1, Ex H H1 → H1 t = some (.tup xs) → H1 u = some (.tup ys) → H1 r = some (.lst (vs ++ [.ref t, .ref u])) → tz D (σ.set i (some (.ref r))) H1) : tSeq (tAsg (tOp rCat (tVar j) (tLst (tCons te (tCons tu tNil)))) (gName i)) tz D σ H := by
  refine ⟨.ref l, hj, h H (Ex.refl H) _ fun t H1 nt e1 ht => h' H1 H1 (Ex.refl H1) _ fun u H2 nu e2 hu => ⟨by show 2 ≤ sizeLine; decide, fun q hq => ⟨l, q, vs, [.ref t, .ref u], rfl, rfl, (Ex.new hq) _ _ (e2 _ _ (e1 _ _ hl)), upd_same, sz_of (by show vs.length + 2 ≤ _; omega), fun r hr => ?_⟩⟩⟩
  have e3 := (Ex.new (o := .lst [.ref t, .ref u]) hq).trans (Ex.new (o := .lst (vs ++ [.ref t, .ref u])) hr)
  exact k r t u _ ((e1.trans e2).trans e3) (e3 _ _ (e2 _ _ ht)) (e3 _ _ hu) upd_same
theorem q_lst2U {te tu : TE} {xs ys : List V} {i : Nat} (h : EvU te σ H xs) (h' : ∀ H1, EvU tu σ H1 ys) (k : ∀ r t u H1, Ex H H1 → H1 t = some (.tup xs) → H1 u = some (.tup ys) → H1 r = some (.lst [.ref t, .ref u]) → tz D (σ.set i (some (.ref r))) H1) :
    tSeq (tAsg (tLst (tCons te (tCons tu tNil))) (gName i)) tz D σ H :=
  h H (Ex.refl H) _ fun t H1 nt e1 ht => h' H1 H1 (Ex.refl H1) _ fun u H2 nu e2 hu => ⟨by show 2 ≤ sizeLine; decide, fun q hq => k q t u _ ((e1.trans e2).trans (Ex.new hq)) ((Ex.new hq) _ _ (e2 _ _ ht)) ((Ex.new hq) _ _ hu) upd_same⟩
theorem q_appUt {te : TE} {xs vs : List V} {j : Nat} {l : Addr} (h : EvU te σ H xs) (hj : σ[j]? = some (some (.ref l))) (hl : H l = some (.lst vs)) (len : vs.length ≤ 1000) (k : ∀ t H1, Ex H H1 → H1 t = some (.tup xs) → H1 l = some (.lst vs) → tz D σ (upd H1 l (.lst (vs ++ [.ref t])))) :
    tSeq (tDrop (tBM K "list" rAppend (tVar j) (tCons te tNil))) tz D σ H :=
  ⟨.ref l, hj, .inl ⟨rfl, _, sq_of hl⟩, h H (Ex.refl H) _ fun t H1 nt e1 ht => ⟨l, vs, .ref t, rfl, rfl, e1 _ _ hl, sz_lt (by omega), k t H1 e1 ht (e1 _ _ hl)⟩⟩
theorem w1 (T : RefT K mg C d bs dT dL dB) (h5 : σ[5]? = some (some (.ref a))) {l : Addr} {n : Nat} (hn : n < 14) (h6 : σ[6]? = some (some (.ref l))) (hW : WdAt K bs H l n) (k : ∀ r H1, H r = none → Ex H H1 → WdAt K bs H1 r (n + 1) → tz D (σ.set 6 (some (.ref r))) H1) :
    tSeq (tW1 K C a d n) tz D σ H := by
  obtain ⟨vs, hl, hp⟩ := hW
  have len : vs.length = n := by rw [paired_len hp, List.length_range]
  refine q_cat1U (eu_pr T h5 hn) h6 hl (by omega) fun r t H1 nr e ht hr => k r H1 nr e ⟨vs ++ [.ref t], hr, ?_⟩
  rw [List.range_succ]
  exact paired_app (paired_imp hp fun _ _ x => x.ex e) ⟨t, rfl, st_of ht⟩
theorem w2 (T : RefT K mg C d bs dT dL dB) (h5 : σ[5]? = some (some (.ref a))) {l : Addr} {n : Nat} (hn : n + 1 < 14) (h6 : σ[6]? = some (some (.ref l))) (hW : WdAt K bs H l n) (k : ∀ r H1, Ex H H1 → WdAt K bs H1 r (n + 2) → tz D (σ.set 6 (some (.ref r))) H1) :
    tSeq (tW2 K C a d n) tz D σ H := by
  obtain ⟨vs, hl, hp⟩ := hW
  have len : vs.length = n := by rw [paired_len hp, List.length_range]
  refine q_cat2U (eu_pr T h5 (by omega)) (fun H1 => eu_pr T h5 hn) h6 hl (by omega) fun r t u H1 e ht hu hr => k r H1 e ⟨vs ++ [.ref t, .ref u], hr, ?_⟩
  rw [List.range_succ, List.range_succ, show vs ++ [V.ref t, V.ref u] = (vs ++ [.ref t]) ++ [.ref u] by simp]
  exact paired_app (paired_app (paired_imp hp fun _ _ x => x.ex e) ⟨t, rfl, st_of ht⟩) ⟨u, rfl, st_of hu⟩
theorem sui_ok (T : RefT K mg C d bs dT dL dB) {y0 y1 y2 y3 y4 : Option V} (k : ∀ p y6 y7 y8 H1, H p = none → Ex H H1 → H1 p = some (.lst (resV bs)) → D.nx [y0, y1, y2, y3, some (.ref p), some (.ref a), y6, y7, y8] H1) :
    tSui K C a d D [y0, y1, y2, y3, y4, some (.ref a), none, none, none] H := by
  refine q_lst2U (i := 6) (eu_pr T rfl (by decide)) (fun H1 => eu_pr T rfl (by decide)) fun q t u G0 f0 ht hu hq => ?_
  have g0 : WdAt K bs G0 q 2 := ⟨_, hq, .cons ⟨t, rfl, st_of ht⟩ (.cons ⟨u, rfl, st_of hu⟩ .nil)⟩
  refine w1 T rfl (by decide) rfl g0 fun q1 G1 _ f1 g1 => ?_
  refine w2 T rfl (by decide) rfl g1 fun q2 G2 f2 g2 => ?_
  refine w2 T rfl (by decide) rfl g2 fun q3 G3 f3 g3 => ?_
  refine w2 T rfl (by decide) rfl g3 fun q4 G4 f4 g4 => ?_
  refine w1 T rfl (by decide) rfl g4 fun q5 G5 _ f5 g5 => ?_
  refine w2 T rfl (by decide) rfl g5 fun q6 G6 f6 g6 => ?_
  refine w1 T rfl (by decide) rfl g6 fun q7 G7 n7 f7 g7 => ?_
  have eB := ((((((f0.trans f1).trans f2).trans f3).trans f4).trans f5).trans f6).trans f7
  obtain ⟨vs, hl, hp⟩ := g7
  have len : vs.length = 13 := by rw [paired_len hp, List.length_range]
  have nH : H q7 = none := fresh_back ((((((f0.trans f1).trans f2).trans f3).trans f4).trans f5).trans f6) n7
  refine q_appUt (K := K) (eu_pr T rfl (by decide)) rfl hl (by omega) fun t9 G8 e8 ht8 hl8 => ?_
  have kp := KeepT.lst (ys := vs ++ [.ref t9]) hl8
  have eC : Ex H (upd G8 q7 (.lst (vs ++ [.ref t9]))) := Ex.mut (eB.trans e8) nH
  have hq9 : upd G8 q7 (.lst (vs ++ [.ref t9])) q7 = some (.lst (vs ++ [.ref t9])) := upd_same
  have hp9 : Paired (PairAt K bs (upd G8 q7 (.lst (vs ++ [.ref t9])))) (vs ++ [.ref t9]) (List.range 14) := by
    rw [List.range_succ]
    refine paired_app (paired_imp hp fun _ _ x => ?_) ⟨t9, rfl, keep_t kp (st_of ht8)⟩
    obtain ⟨z, z1, z2⟩ := x
    exact ⟨z, z1, keep_t ((KeepT.ex e8).trans kp) z2⟩
  generalize upd G8 q7 (.lst (vs ++ [.ref t9])) = G at eC hq9 hp9
  have len9 : (vs ++ [V.ref t9]).length = 14 := by rw [List.length_append, List.length_singleton, len]
  refine s_asgL (i := 4) (xs := resV bs) (el_catN (el_lc (ew_list (K := K) (ev_var (v := .ref q7) rfl) (sq_of hq9)) (by omega) bs (fun i => .str (nmC i)) (by rw [len9]) (fun i x H1 H2 Q e hi hy kk => ?_)) (el_lst (ea_cons (ev_isV T rfl) ea_nil) (by show 1 ≤ 100000; decide)) ?_) fun p G9 np e9 hpp => k p _ _ _ G9 (fresh_back eC np) (eC.trans e9) hpp
  · obtain ⟨rfl, hx⟩ := hy
    obtain ⟨j, hj, t, rfl, ht⟩ := paired_get hp9 hx
    have hji : j = i := by
      rw [len9] at hi
      rw [List.getElem?_range hi] at hj
      exact (Option.some.inj hj).symm
    subst hji
    refine ⟨t, _, rfl, ex_t e ht, rfl, .str (nmC j), [.bl (bs j)], rfl, .bl (bs j), [], rfl, rfl, kk _ _ (Ex.refl _) rfl (et_B (ev_var rfl)) fun _ => ev_var rfl⟩
  · rw [List.length_map]
    have := List.length_filter_le bs (List.range 14)
    rw [List.length_range] at this
    show _ + 1 ≤ 100000
    omega
theorem ref_core {mk : Addr → NF} {b : Expr} {spL : Sp} (T : RefT K mg C d bs dT dL dB) {f c' : Addr} {v1 v2 v3 : V} {Q : VK} {nx bk ct : L2.St → Hp → Prop} (hf : H f = some (LamO f (mk c') b)) (hc : H (mk c').c = some (CodeO (mk c').c (mk c').qual))
    (q : ∀ H1, Ex H H1 → ∀ (Q' : VK) (E' : XK), (∀ H2, Ex H1 H2 → E' (.ref C) none H2) → spL [v1, v2, v3] H1 Q' E') (qq : ∀ p H2, H p = none → Ex H H2 → H2 p = some (.lst (resV bs)) → Q (.ref p) H2) :
    tRef K mk b spL C d dT dL dB ⟨nx, Q, bk, ct⟩ [some (.ref f), some v1, some v2, some v3, none, none, none, none, none] H := by
  refine q_asgL (i := 4) (xs := []) (el_lst ea_nil (by decide)) fun kp H1 n1 e1 hk => ?_
  refine ⟨f, c', rfl, e1 _ _ hf, v1, rfl, v2, rfl, v3, rfl, e1 _ _ hf, e1 _ _ hc, ?_⟩
  refine q H1 e1 _ _ fun H2 e2 => ?_
  refine ⟨false, T.eT, (fun h => by cases h), fun _ => ⟨false, T.eL, (fun h => by cases h), fun _ => ⟨true, T.eB, fun _ a na => ⟨⟨rfl, rfl⟩, ?_⟩, fun h => by cases h⟩⟩⟩
  refine sui_ok (a := a) T fun p y6 y7 y8 H3 np e3 hp => ?_
  exact ⟨.ref p, rfl, qq p H3 (fresh_back (e1.trans e2) np) ((e1.trans e2).trans e3) hp⟩
end
end Kw
set_option Elab.async false
set_option linter.all false
set_option maxRecDepth 100000
set_option maxHeartbeats 4000000
namespace Kw
open PySem PySem.Spec PyProof.Rows L2 Evl KwX NdefX LamX
/-! ### an error with a field -/
abbrev sTMI : Stmt := sMt 16 0
abbrev sLkI : Stmt := sMt 17 0
theorem scTMI : FnScope ["self", "most"] ["self", "most"] (defScope sTMI) := ⟨rfl, rfl, rfl, by decide +kernel, rfl, by decide +kernel, by decide +kernel⟩
theorem scLkI : FnScope ["self", "colour"] ["self", "colour"] (defScope sLkI) := ⟨rfl, rfl, rfl, by decide +kernel, rfl, by decide +kernel, by decide +kernel⟩
/-- __init__(self, v): self.f = v -/
def spIni (C : Addr) (f : Str) : Sp := fun vs H Q _ => ∃ (a : Addr) (v : V), vs = [.ref a, v] ∧ H a = some (exo a C none) ∧ ∀ dx, H dx = none → dx ≠ a → Q .non (upd (upd H dx (exd dx [(f, v)])) a (exo a C (some dx)))
structure IniT (K : PySem.W.Frag) (mg : Str → Option Value) (nm f : Str) (C fI : Addr) (fd : FuncData) : Prop where
  O : OexC K C
  i : PySem.W.findIn K (.ref C) "__init__" = some (some (.ref fI))
  ty : PySem.W.typeIn K (.ref fI) = some (.type "function")
  g : mg nm = some (.ref C)
  bn : Binds K fd ["self", f] []
section
variable {P : Program} {w : World} {K : PySem.W.Frag} {mg : Str → Option Value} {base : Heap}
theorem ok_tmi {f : Addr} {fd : FuncData} {k : Nat} {C : Addr} (F : Fun K "__init__" "TooMany.__init__" sTMI f fd) (O : OexC K C) (no : PySem.W.findIn K (.ref C) "most" = some none) : FnOk P w K mg base CX0 (k + 1) f fd ["self", "most"] (spIni C "most") := by
  refine F.ok scTMI (fun vs H Q E h => ?_) (fun cdv A outer s H vs Q E hr h => ?_)
  · obtain ⟨a, v, rfl, _⟩ := h
    rfl
  · obtain ⟨a, v, rfl, ha, q⟩ := h
    exact ⟨_, pss_one (ps_ost (pv 0) (pv 1)), v, rfl, .ref a, rfl, a, C, rfl, O, no, .inl ⟨ha, q⟩⟩
theorem ok_lki {f : Addr} {fd : FuncData} {k : Nat} {C : Addr} (F : Fun K "__init__" "Locked.__init__" sLkI f fd) (O : OexC K C) (no : PySem.W.findIn K (.ref C) "colour" = some none) : FnOk P w K mg base CX0 (k + 1) f fd ["self", "colour"] (spIni C "colour") := by
  refine F.ok scLkI (fun vs H Q E h => ?_) (fun cdv A outer s H vs Q E hr h => ?_)
  · obtain ⟨a, v, rfl, _⟩ := h
    rfl
  · obtain ⟨a, v, rfl, ha, q⟩ := h
    exact ⟨_, pss_one (ps_ost (pv 0) (pv 1)), v, rfl, .ref a, rfl, a, C, rfl, O, no, .inl ⟨ha, q⟩⟩
end
/-- C(v): raised, with v in its dict -/
theorem mk_ini {C : Addr} {f : Str} {v : V} {ta : TA} {σ : L2.St} {H : Hp} {Q : XK} (h : EvA ta σ H [v]) (q : ∀ dd H', Ex H H' → H' dd = some (.xd [(f, v)]) → Q (.ref C) (some dd) H') : tMkO C (spIni C f) [] ta σ H Q := by
  refine h H (Ex.refl H) _ fun H1 e1 => ⟨by show 1 ≤ 1000; decide, fun a na => ⟨a, v, rfl, upd_same, fun dx nd ne => ⟨rfl, dx, [(f, v)], upd_same, ?_, ?_, ?_⟩⟩⟩
  · rw [upd_ne ne, upd_same]
  · rw [upd_ne ne] at nd
    exact nd
  · rw [upd_ne ne] at nd
    refine q dx _ (e1.trans fun b o hb => ?_) upd_same
    have hba : b ≠ a := ne_of_none hb na
    have hbd : b ≠ dx := ne_of_none hb nd
    rw [upd_ne hbd, del_ne hba, upd_ne hba, upd_ne hbd, upd_ne hba]
    exact hb
/-! ### _law_refused, whatever becomes of the call -/
inductive Out where
  | fine : Out
  | many : Out
  | locked (c : Str) : Out
  | cls (i : Nat) : Out
def resO : Out → List V
  | .fine => []
  | .many => [.str "TooMany", .int 10, .bl true]
  | .locked c => [.str "Locked", .str c, .bl true]
  | .cls i => resV (fun j => decide (j = i))
/-- what an error class with the field f says -/
structure FldT (K : PySem.W.Frag) (C : Addr) (f : Str) : Prop where
  x : XfC K C
  no : PySem.W.findIn K (.ref C) f = some none
  e : ExcC K C
  v : PySem.W.kitOne K (.ref C) (.type "ValueError") = some true
structure RefG (K : PySem.W.Frag) (mg : Str → Option Value) (d : Nat → Addr) (rs : Nat → Bool) (rT rL : Bool) (dT dL dB : Addr) : Prop where
  mT : mg "TooMany" = some (.ref dT)
  mL : mg "Locked" = some (.ref dL)
  mB : mg "BoxError" = some (.ref dB)
  isi : mg "isinstance" = none
  ve : mg "ValueError" = none
  c : ∀ i, i < 14 → rs i = true → RefT K mg (d i) d (fun j => decide (j = i)) dT dL dB
  t : rT = true → PySem.W.exmOne K (.ref dT) (.ref dT) = some true ∧ FldT K dT "most"
  l : rL = true → PySem.W.exmOne K (.ref dL) (.ref dT) = some false ∧ PySem.W.exmOne K (.ref dL) (.ref dL) = some true ∧ FldT K dL "colour"
section
variable (K : PySem.W.Frag) (d : Nat → Addr)
def tFld (C : Addr) (nm f : Str) (a : Addr) (cls : Value) (dd : Option Addr) : TS := tAsg (tLst (tCons (tC (.str nm)) (tCons (tXf a cls dd C f (tVar 5)) (tCons (tCB (rIsD K C a dd) (tCons (tVar 5) (tCons (tC (.ty "ValueError")) tNil))) tNil)))) (gName 4)
def clG (rs : Nat → Bool) (rT rL : Bool) (dT dL dB : Addr) : List Cl := [(.ref dT, fun a cls dd D σ H => (rT = true ∧ cls = .ref dT) ∧ tFld K dT "TooMany" "most" a cls dd D σ H), (.ref dL, fun a cls dd D σ H => (rL = true ∧ cls = .ref dL) ∧ tFld K dL "Locked" "colour" a cls dd D σ H), (.ref dB, fun a cls dd D σ H => ∃ i, (i < 14 ∧ rs i = true ∧ cls = .ref (d i) ∧ dd = none) ∧ tSui K (d i) a d D σ H)]
def tRefG (mk : Addr → NF) (b : Expr) (spL : Sp) (rs : Nat → Bool) (rT rL : Bool) (dT dL dB : Addr) : TS :=
  tSeq (tAsg (tLst tNil) (gName 4)) (tSeq (fun D σ H => tDrop (tCallV mk b 0 spL (fun σ => WE (wAsM K 5 (fun _ _ _ _ => False) D (clG K d rs rT rL dT dL dB)) σ) (tCons (tVar 1) (tCons (tVar 2) (tCons (tVar 3) tNil)))) D σ H) (tRet (tVar 4)))
/-- the call of the lambda may end so: Φ -/
def Ends4 (spL : Sp) (vs : List V) (rs : Nat → Bool) (rT rL : Bool) (dT dL : Addr) (H1 : Hp) (Φ : Out → Hp → Prop) : Prop := ∀ (Q' : VK) (E' : XK), (∀ v H2, Φ .fine H2 → Q' v H2) → (∀ H2 dd, rT = true → Φ .many H2 → H2 dd = some (.xd [("most", .int 10)]) → E' (.ref dT) (some dd) H2) → (∀ c H2 dd, rL = true → Φ (.locked c) H2 → H2 dd = some (.xd [("colour", .str c)]) → E' (.ref dL) (some dd) H2) → (∀ i H2, i < 14 → rs i = true → Φ (.cls i) H2 → E' (.ref (d i)) none H2) → spL vs H1 Q' E'
def spRefG (mk : Addr → NF) (b : Expr) (spL : Sp) (rs : Nat → Bool) (rT rL : Bool) (dT dL : Addr) : Sp := fun vs H Q _ => ∃ (f c' : Addr) (v1 v2 v3 : V) (Φ : Hp → Out → Hp → Prop), vs = [.ref f, v1, v2, v3] ∧ H f = some (LamO f (mk c') b) ∧ H (mk c').c = some (CodeO (mk c').c (mk c').qual) ∧
  (∀ H1, Ex H H1 → Ends4 d spL [v1, v2, v3] rs rT rL dT dL H1 (Φ H1)) ∧ (∀ H1 H2 kp, Ex H H1 → H kp = none → H1 kp = some (.lst []) → Φ H1 .fine H2 → Q (.ref kp) H2) ∧ ∀ H1 o H2 p H3, Ex H H1 → o ≠ .fine → Φ H1 o H2 → H2 p = none → Ex H2 H3 → H3 p = some (.lst (resO o)) → Q (.ref p) H3
end
theorem pss_preX {α : Type} {X : Cx} {l : List Stmt} {t : α → TS} {φ : α → Prop} (h : ∀ i, φ i → PSs X l (t i)) : PSs X l (fun D σ H => ∃ i, φ i ∧ t i D σ H) := ⟨fun pins s σ H D I w => by
  obtain ⟨i, w1, w2⟩ := w
  exact (h i w1).run pins s σ H D I w2⟩
section
variable {P : Program} {w : World} {K : PySem.W.Frag} {mg : Str → Option Value} {base : Heap}
theorem ok_refG' {f : Addr} {fd : FuncData} {k : Nat} {mk : Addr → NF} {b : Expr} {ps : List Str} {spL : Sp} {dT dL dB : Addr} {d : Nat → Addr} {rs : Nat → Bool} {rT rL : Bool} (F : Fun K "_law_refused" "_law_refused" sRef f fd) (T : RefG K mg d rs rT rL dT dL dB) (L : ∀ c', LOk P w K mg base (L2N.CX P w) k (mk c') b ps spL)
    (core : ∀ vs H Q E, spRefG d mk b spL rs rT rL dT dL vs H Q E → ∀ nx bk ct, tRefG K d mk b spL rs rT rL dT dL dB ⟨nx, Q, bk, ct⟩ (start ["call", "one", "two", "three", "kin", "e", "words", "word", "there"] vs) H) : FnOk P w K mg base CX0 (k + 1) f fd ["call", "one", "two", "three"] (spRefG d mk b spL rs rT rL dT dL) := by
  refine F.ok scRef (fun vs H Q E h => ?_) (fun cdv A outer s H vs Q E hr h => ?_)
  · obtain ⟨f, c', v1, v2, v3, Φ, rfl, _⟩ := h
    rfl
  · refine ⟨tRefG K d mk b spL rs rT rL dT dL dB, pss_cons (ps_set (i := 4) scRef.nd rfl (.inl rfl) (pe_lst pa_nil))
      (pss_cons (ps_try_asM (j := 5) (n := "e") (Wo := fun _ _ _ _ => False) (tb := fun W => tDrop (tCallV mk b 0 spL (fun σ => WE W σ) (tCons (tVar 1) (tCons (tVar 2) (tCons (tVar 3) tNil))))) rfl rfl scRef.nd rfl rfl takes0N
        (fun W pp xe tk _ => pss_one (ps_expr (pe_callV (E := fun σ => WE W σ) (j := k) L hr (Nat.le_refl k) (fun σ => L2N.passAt tk σ) rfl (.inl rfl) (pa_cons (pv 1) (pa_cons (pv 2) (pa_cons (pv 3) pa_nil))))))
        (.cons ⟨rfl, by decide, .inl T.mT⟩ (fun a oe cls dd pn hz hfs => pss_pre fun hcd => ?_) (.cons ⟨rfl, by decide, .inl T.mL⟩ (fun a oe cls dd pn hz hfs => pss_pre fun hcd => ?_) (.cons ⟨rfl, by decide, .inl T.mB⟩ (fun a oe cls dd pn hz hfs => pss_preX fun i hcd => ?_) .nil))))
      (pss_one (ps_ret (pv 4)))), core vs H Q E h _ _ _⟩
    · obtain ⟨hr1, rfl⟩ := hcd
      have fl := (T.t hr1).2
      exact pss_one (ps_set (i := 4) scRef.nd rfl (.inl rfl) (pe_lst (pa_cons pe_str (pa_cons (pe_xf fl.x fl.no hz.zc hfs (pv 5)) (pa_cons (pe_callB (call_isD fl.e hz.zc hfs) (by rfl) T.isi boot_isinstance (pa_cons (pv 5) (pa_cons (pe_bltn (v := .ty "ValueError") (by rfl) T.ve boot_ValueError rfl) pa_nil))) pa_nil)))))
    · obtain ⟨hr1, rfl⟩ := hcd
      have fl := (T.l hr1).2.2
      exact pss_one (ps_set (i := 4) scRef.nd rfl (.inl rfl) (pe_lst (pa_cons pe_str (pa_cons (pe_xf fl.x fl.no hz.zc hfs (pv 5)) (pa_cons (pe_callB (call_isD fl.e hz.zc hfs) (by rfl) T.isi boot_isinstance (pa_cons (pv 5) (pa_cons (pe_bltn (v := .ty "ValueError") (by rfl) T.ve boot_ValueError rfl) pa_nil))) pa_nil)))))
    · obtain ⟨hi, hri, rfl, rfl⟩ := hcd
      have T := T.c i hi hri
      have hot : ∀ X : Cx, L2H.HotC (X.suite a ((a, oe) :: pn)) := fun X => by
        obtain ⟨vs, hv⟩ := hfs
        exact ⟨(a, oe), ⟨rfl, vs, hv, hz.2.2 vs hv⟩, List.mem_cons_self⟩
      have isE := fun (X : Cx) (ec : ExcC X.K (d i)) => call_isE (X := X) (a := a) (pn := pn) ec hz.zc hfs
      exact (pss_cons (ps_set (i := 6) scRef.nd rfl (.inl rfl) (pe_lst (pa_cons (pe_tup (pa_cons pe_str (pa_cons (pe_callB (isE _ T.ec) (by rfl) T.isi boot_isinstance (pa_cons (pv 5) (pa_cons (pe_glob (v := .ref (d 0)) (by rfl) (T.m 0 (by decide)) rfl) pa_nil))) pa_nil))) (pa_cons (pe_tup (pa_cons pe_str (pa_cons (pe_callB (isE _ T.ec) (by rfl) T.isi boot_isinstance (pa_cons (pv 5) (pa_cons (pe_glob (v := .ref (d 1)) (by rfl) (T.m 1 (by decide)) rfl) pa_nil))) pa_nil))) pa_nil))))
          (pss_cons (ps_set (i := 6) scRef.nd rfl (.inl rfl) (pe_op op_cat (pv 6) (pe_lst (pa_cons (pe_tup (pa_cons pe_str (pa_cons (pe_callB (isE _ T.ec) (by rfl) T.isi boot_isinstance (pa_cons (pv 5) (pa_cons (pe_glob (v := .ref (d 2)) (by rfl) (T.m 2 (by decide)) rfl) pa_nil))) pa_nil))) pa_nil))))
          (pss_cons (ps_set (i := 6) scRef.nd rfl (.inl rfl) (pe_op op_cat (pv 6) (pe_lst (pa_cons (pe_tup (pa_cons pe_str (pa_cons (pe_callB (isE _ T.ec) (by rfl) T.isi boot_isinstance (pa_cons (pv 5) (pa_cons (pe_glob (v := .ref (d 3)) (by rfl) (T.m 3 (by decide)) rfl) pa_nil))) pa_nil))) (pa_cons (pe_tup (pa_cons pe_str (pa_cons (pe_callB (isE _ T.ec) (by rfl) T.isi boot_isinstance (pa_cons (pv 5) (pa_cons (pe_glob (v := .ref (d 4)) (by rfl) (T.m 4 (by decide)) rfl) pa_nil))) pa_nil))) pa_nil)))))
          (pss_cons (ps_set (i := 6) scRef.nd rfl (.inl rfl) (pe_op op_cat (pv 6) (pe_lst (pa_cons (pe_tup (pa_cons pe_str (pa_cons (pe_callB (isE _ T.ec) (by rfl) T.isi boot_isinstance (pa_cons (pv 5) (pa_cons (pe_glob (v := .ref (d 5)) (by rfl) (T.m 5 (by decide)) rfl) pa_nil))) pa_nil))) (pa_cons (pe_tup (pa_cons pe_str (pa_cons (pe_callB (isE _ T.ec) (by rfl) T.isi boot_isinstance (pa_cons (pv 5) (pa_cons (pe_glob (v := .ref (d 6)) (by rfl) (T.m 6 (by decide)) rfl) pa_nil))) pa_nil))) pa_nil)))))
          (pss_cons (ps_set (i := 6) scRef.nd rfl (.inl rfl) (pe_op op_cat (pv 6) (pe_lst (pa_cons (pe_tup (pa_cons pe_str (pa_cons (pe_callB (isE _ T.ec) (by rfl) T.isi boot_isinstance (pa_cons (pv 5) (pa_cons (pe_glob (v := .ref (d 7)) (by rfl) (T.m 7 (by decide)) rfl) pa_nil))) pa_nil))) (pa_cons (pe_tup (pa_cons pe_str (pa_cons (pe_callB (isE _ T.ec) (by rfl) T.isi boot_isinstance (pa_cons (pv 5) (pa_cons (pe_glob (v := .ref (d 8)) (by rfl) (T.m 8 (by decide)) rfl) pa_nil))) pa_nil))) pa_nil)))))
          (pss_cons (ps_set (i := 6) scRef.nd rfl (.inl rfl) (pe_op op_cat (pv 6) (pe_lst (pa_cons (pe_tup (pa_cons pe_str (pa_cons (pe_callB (isE _ T.ec) (by rfl) T.isi boot_isinstance (pa_cons (pv 5) (pa_cons (pe_glob (v := .ref (d 9)) (by rfl) (T.m 9 (by decide)) rfl) pa_nil))) pa_nil))) pa_nil))))
          (pss_cons (ps_set (i := 6) scRef.nd rfl (.inl rfl) (pe_op op_cat (pv 6) (pe_lst (pa_cons (pe_tup (pa_cons pe_str (pa_cons (pe_callB (isE _ T.ec) (by rfl) T.isi boot_isinstance (pa_cons (pv 5) (pa_cons (pe_glob (v := .ref (d 10)) (by rfl) (T.m 10 (by decide)) rfl) pa_nil))) pa_nil))) (pa_cons (pe_tup (pa_cons pe_str (pa_cons (pe_callB (isE _ T.ec) (by rfl) T.isi boot_isinstance (pa_cons (pv 5) (pa_cons (pe_glob (v := .ref (d 11)) (by rfl) (T.m 11 (by decide)) rfl) pa_nil))) pa_nil))) pa_nil)))))
          (pss_cons (ps_set (i := 6) scRef.nd rfl (.inl rfl) (pe_op op_cat (pv 6) (pe_lst (pa_cons (pe_tup (pa_cons pe_str (pa_cons (pe_callB (isE _ T.ec) (by rfl) T.isi boot_isinstance (pa_cons (pv 5) (pa_cons (pe_glob (v := .ref (d 12)) (by rfl) (T.m 12 (by decide)) rfl) pa_nil))) pa_nil))) pa_nil))))
          (pss_cons (ps_expr (pe_bm PySem.F.plainAttrs_list PySem.F.slot_list_append PySem.F.type_list_append mt_append (pv 6) (pa_cons (pe_tup (pa_cons pe_str (pa_cons (pe_callB (isE _ T.ec) (by rfl) T.isi boot_isinstance (pa_cons (pv 5) (pa_cons (pe_glob (v := .ref (d 13)) (by rfl) (T.m 13 (by decide)) rfl) pa_nil))) pa_nil))) pa_nil)))
          (pss_one (ps_set (i := 4) scRef.nd rfl (.inl rfl) (pe_op op_cat (pe_lcH (own := [("word", 7), ("there", 8)]) (g := gTup K 2 (gCons (gName 7) (gCons (gName 8) gNil))) (tt := tB (tVar 8)) (te := tVar 7) (hot _) scRef.nd (pi_listH (pv 6)) (blkOk_by (N := ["call", "one", "two", "three", "kin", "e", "words", "word", "there"]) (sc := defScope sRef) (by decide +kernel))
          (fun _ _ _ _ _ => pg_tupH (hot _) (pgs_cons (pg_name (i := 7) scRef.nd rfl (.inl rfl)) (pgs_cons (pg_name (i := 8) scRef.nd rfl (.inl rfl)) pgs_nil))) (fun _ _ _ _ _ => pts_one (pt_val (pv 8))) (fun _ _ _ _ _ => pv 7))
          (pe_lst (pa_cons (pe_callB (isE _ T.ec) (by rfl) T.isi boot_isinstance (pa_cons (pv 5) (pa_cons (pe_bltn (v := .ty "ValueError") (by rfl) T.ve boot_ValueError rfl) pa_nil))) pa_nil))))))))))))))
end
end Kw
set_option Elab.async false
set_option linter.all false
set_option maxRecDepth 100000
set_option maxHeartbeats 4000000
namespace KwX
open PySem PySem.Spec PyProof.Rows L2
section
variable {X : Cx} {CX : CXT} {C g : Addr} {fd : FuncData} {ps : List Str} {sp : Sp} {n : Nat} {E : XK}
/-- x == y, x an instance of C with its own __eq__ -/
def rEqI (K : PySem.W.Frag) (C : Addr) (sp : Sp) (E : XK) : R2 := fun x y H Q => ∃ (a dx : Addr) (fs : List (Str × V)) (t : Value), x = .ref a ∧ H a = some (.ins C dx fs) ∧ TyX K H y t ∧ PySem.W.notFirst K C t = true ∧ sp [x, y] H Q E
theorem op_eqI (Fg : FnOk X.prog X.w X.K X.mg X.base CX n g fd ps sp) (fe : PySem.W.findIn X.K (.ref C) "__eq__" = some (some (.ref g))) (isf : PySem.W.isFn X.K (.ref g) = true) (bn : Binds X.K fd ps []) (ro : Room n X.A) (pass : Passes CX X E) : OpR X (compareOp .Eq) (rEqI X.K C sp E) := by
  intro pins s0 τ G x y u v Q J rx ry want
  obtain ⟨a, dx, fs, t, rfl, ha, ty, nf, q⟩ := want
  cases (show u = Value.ref a from rx)
  obtain ⟨mA, O, _⟩ := ins_get J.hok ha
  obtain ⟨od, O1, _⟩ := O.look
  obtain ⟨Pk, kit, hP, _⟩ := kit_of J ry ty
  obtain ⟨m, fr⟩ := J.fr
  show wpAny _ _ (richCompare .Eq (.ref a) v) _ _ _
  refine PySem.W.cmp_K (op := .Eq) (tb := t) ro.units0 fr J.ok.mod.kin O1 (kit.ty _ _ J.kIn hP) nf fe isf ?_
  refine wpAny_mono (run_fn (us := [.ref a, v]) (vs := [.ref a, y]) (dvs := []) (ds := []) Fg ro bn .nil pass J (.cons rfl (.cons ry .nil)) q) (fun w s' z => ?_) fun _ _ e => e
  obtain ⟨z1, G1, J1, rz, qz⟩ := z
  exact SlX.cmpback rz ⟨z1, G1, J1, rz, qz⟩
/-- len(x), x an instance of C with its own __len__ -/
def rLenI (C : Addr) (sp : Sp) (E : XK) : List V → Hp → VK → Prop := fun xs H Q => ∃ (a dx : Addr) (fs : List (Str × V)), xs = [V.ref a] ∧ H a = some (.ins C dx fs) ∧ sp [.ref a] H (fun z H' => ∃ i : Nat, z = .int i ∧ i < 2 ^ 63 ∧ Q z H') E
theorem cr_lenI (Fg : FnOk X.prog X.w X.K X.mg X.base CX n g fd ps sp) (fl : PySem.W.findIn X.K (.ref C) "__len__" = some (some (.ref g))) (isf : PySem.W.isFn X.K (.ref g) = true) (bn : Binds X.K fd ps []) (ro : Room (n + 1) X.A) (pass : Passes CX X E) : CallR X (.builtin "len") (rLenI C sp E) := by
  intro pins s0 τ G xs us Q J r want
  obtain ⟨a, dx, fs, rfl, ha, q⟩ := want
  rw [Vals.ref1 r]
  obtain ⟨mA, O, _⟩ := ins_get J.hok ha
  obtain ⟨od, O1, _⟩ := O.look
  obtain ⟨m, fr⟩ := J.fr
  have FR := FnOk.raw (dvs := []) (ds := []) Fg bn .nil
  refine PySem.W.len_K fr J.ok.mod.kin O1 fl isf (wpAny_mono (wpAny_call (SlX.run_at (A := X.A.in1) (us := [.ref a]) (ws := [.ref a]) FR ro.in1 J.env0.in1 pass J (.cons rfl .nil) q)) (fun w s' z => ?_) fun _ _ e => e)
  obtain ⟨z1, G1, J1, rz, i, ei, hi, qz⟩ := z
  subst ei
  obtain ⟨t, e⟩ := (show ∃ t, w = Value.int i t from rz)
  cases e
  exact ⟨⟨by omega, by omega⟩, .int i, G1, J1.tok _, ⟨_, rfl⟩, qz⟩
end
end KwX
set_option Elab.async false
set_option linter.all false
set_option maxRecDepth 100000
set_option maxHeartbeats 4000000
namespace Kw
open PySem PySem.Spec PyProof.Rows L2 Evl KwX NdefX LamX
abbrev sJn : Stmt := topS 27
theorem scJn : FnScope ["row", "more"] ["row", "more"] (defScope sJn) := ⟨rfl, rfl, rfl, by decide +kernel, rfl, by decide +kernel, by decide +kernel⟩
abbrev sChg : Stmt := topS 28
theorem scChg : FnScope ["row", "place", "part"] ["row", "place", "part"] (defScope sChg) := ⟨rfl, rfl, rfl, by decide +kernel, rfl, by decide +kernel, by decide +kernel⟩
abbrev sPlc : Stmt := topS 24
theorem scPlc : FnScope ["thing", "many"] ["thing", "many"] (defScope sPlc) := ⟨rfl, rfl, rfl, by decide +kernel, rfl, by decide +kernel, by decide +kernel⟩
/-! ### a house kept: its states -/
structure KSt where
  hand : List Str
  op : List Nat
  br : List Nat
  ly : List (List Str)
deriving DecidableEq
def encL (ly : List (List Str)) : PyData := .tuple (ly.map encC)
def encS (s : KSt) : PyData := .tuple [encC s.hand, .tuple (dN s.op), .tuple (dN s.br), encL s.ly]
def ColsAt (K : PySem.W.Frag) (H : Hp) (vs : List V) (ly : List (List Str)) : Prop := Paired (fun v ks => ∃ p, v = .ref p ∧ SqT K H p (ks.map V.str)) vs ly
structure StA (K : PySem.W.Frag) (H : Hp) (t ha oa ba la : Addr) (lvs : List V) (s : KSt) : Prop where
  t : SqT K H t [.ref ha, .ref oa, .ref ba, .ref la]
  h : SqT K H ha (s.hand.map V.str)
  o : SqT K H oa (s.op.map vN)
  b : SqT K H ba (s.br.map vN)
  l : SqT K H la lvs
  ls : ColsAt K H lvs s.ly
def StAt (K : PySem.W.Frag) (H : Hp) (v : V) (s : KSt) : Prop := ∃ t ha oa ba la lvs, v = .ref t ∧ StA K H t ha oa ba la lvs s
/-- the kept house at a, its past at pl -/
def KpAt (K : PySem.W.Frag) (C : Addr) (H : Hp) (a pl : Addr) (h : House) (s : KSt) (ps : List KSt) : Prop :=
  ∃ dx hv sv pvs, H a = some (.ins C dx [("house", hv), ("state", sv), ("past", .ref pl)]) ∧ H pl = some (.lst pvs) ∧ HouseAt K H hv h ∧ StAt K H sv s ∧ Paired (StAt K H) pvs ps
/-- all but the kept house at a stays -/
def ExK (a pl : Addr) (H H' : Hp) : Prop := ∀ b o, b ≠ a → b ≠ pl → H b = some o → H' b = some o
theorem ExK.refl (a pl : Addr) (H : Hp) : ExK a pl H H := fun _ _ _ _ h => h
theorem ExK.trans {a pl : Addr} {H H1 H2 : Hp} (x : ExK a pl H H1) (y : ExK a pl H1 H2) : ExK a pl H H2 := fun b o n m h => y b o n m (x b o n m h)
theorem ExK.ex {a pl : Addr} {H H' : Hp} (e : Ex H H') : ExK a pl H H' := fun b o _ _ h => e b o h
section
variable {K : PySem.W.Frag} {H H' : Hp} {v : V} {s : KSt} {C a pl : Addr} {h : House} {ps : List KSt}
theorem ColsAt.keep {vs : List V} {ly : List (List Str)} (e : KeepT H H') (h : ColsAt K H vs ly) : ColsAt K H' vs ly := paired_imp h fun _ _ ⟨p, h1, h2⟩ => ⟨p, h1, keep_t e h2⟩
theorem StA.keep {t ha oa ba la : Addr} {lvs : List V} (e : KeepT H H') (x : StA K H t ha oa ba la lvs s) : StA K H' t ha oa ba la lvs s := ⟨keep_t e x.t, keep_t e x.h, keep_t e x.o, keep_t e x.b, keep_t e x.l, x.ls.keep e⟩
theorem StAt.keep (e : KeepT H H') (x : StAt K H v s) : StAt K H' v s := by
  obtain ⟨t, ha, oa, ba, la, lvs, h1, h2⟩ := x
  exact ⟨t, ha, oa, ba, la, lvs, h1, h2.keep e⟩
theorem dp_colsA : ∀ {vs : List V} {ly : List (List Str)}, ColsAt K H vs ly → DpAll K H vs (ly.map encC)
  | _, _, .nil => .nil
  | _, _, .cons r t => by
    obtain ⟨p, rfl, hp⟩ := r
    exact .cons (dp_cols hp) (dp_colsA t)
theorem StAt.dp (x : StAt K H v s) : Dp K H v (encS s) := by
  obtain ⟨t, ha, oa, ba, la, lvs, rfl, x⟩ := x
  exact .tup x.t (.cons (dp_cols x.h) (.cons (.tup x.o (dp_nats _)) (.cons (.tup x.b (dp_nats _)) (.cons (.tup x.l (dp_colsA x.ls)) .nil))))
theorem KpAt.frame (e : KeepT H H') (e1 : H' a = H a) (e2 : H' pl = H pl) (x : KpAt K C H a pl h s ps) : KpAt K C H' a pl h s ps := by
  obtain ⟨dx, hv, sv, pvs, g1, g2, g3, g4, g5⟩ := x
  exact ⟨dx, hv, sv, pvs, e1.trans g1, e2.trans g2, g3.keep e, g4.keep e, paired_imp g5 fun _ _ z => z.keep e⟩
theorem KpAt.ex (e : Ex H H') (x : KpAt K C H a pl h s ps) : KpAt K C H' a pl h s ps := by
  have x' := x
  obtain ⟨dx, hv, sv, pvs, g1, g2, _⟩ := x'
  exact x.frame (KeepT.ex e) (by rw [g1]; exact e _ _ g1) (by rw [g2]; exact e _ _ g2)
theorem KpAt.n (e : ExtN H H') (x : KpAt K C H a pl h s ps) : KpAt K C H' a pl h s ps := by
  have x' := x
  obtain ⟨dx, hv, sv, pvs, g1, g2, _⟩ := x'
  exact x.frame (keepN e) (by rw [g1]; exact e _ _ g1 fun ps z => by cases z) (by rw [g2]; exact e _ _ g2 fun ps z => by cases z)
theorem KpAt.keepT (x : KpAt K C H a pl h s ps) (e : ExK a pl H H') : KeepT H H' := fun b xs r => by
  obtain ⟨dx, hv, sv, pvs, g1, g2, _⟩ := x
  have n1 : b ≠ a := by
    rintro rfl
    rcases r with r | ⟨o, r⟩ <;> (rw [g1] at r; cases r)
  have n2 : b ≠ pl := by
    rintro rfl
    rcases r with r | ⟨o, r⟩ <;> (rw [g2] at r; cases r)
  rcases r with r | ⟨o, r⟩
  · exact .inl (e _ _ n1 n2 r)
  · exact .inr ⟨o, e _ _ n1 n2 r⟩
/-- the state of a kept house, and its parts -/
theorem KpAt.parts (x : KpAt K C H a pl h s ps) : ∃ dx hv t ha oa ba la lvs pvs, H a = some (.ins C dx [("house", hv), ("state", .ref t), ("past", .ref pl)]) ∧ H pl = some (.lst pvs) ∧ HouseAt K H hv h ∧ StA K H t ha oa ba la lvs s ∧ Paired (StAt K H) pvs ps := by
  obtain ⟨dx, hv, sv, pvs, g1, g2, g3, ⟨t, ha, oa, ba, la, lvs, rfl, g4⟩, g5⟩ := x
  exact ⟨dx, hv, t, ha, oa, ba, la, lvs, pvs, g1, g2, g3, g4, g5⟩
end
/-- what the text says of the class Kept -/
structure KCls (K : PySem.W.Frag) (mg : Str → Option Value) (C : Addr) : Prop where
  c : Cls K C
  nh : NoAttr K C "house"
  ns : NoAttr K C "state"
  np : NoAttr K C "past"
  g : mg "Kept" = some (.ref C)
  ca : PySem.W.findIn K (.ref C) "__class__" = some (some (.builtin "object.__class__"))
  cn : PySem.W.specialIn K (.builtin "object.__class__") "__get__" = some (some (.builtin "getset_descriptor.__get__"))
  ct : PySem.W.takesIn K (.builtin "object.__class__") = some true
  cm : PySem.W.mroIn K C (.type "object") = some true
  nt : PySem.W.notFirst K C (.type "tuple") = true
  nk : PySem.W.notFirst K C (.ref C) = true
  kk : PySem.W.kitOne K (.ref C) (.ref C) = some true
  kt : PySem.W.kitOne K (.type "tuple") (.ref C) = some false
/-- a method: where it stands, how it binds -/
structure MetD (K : PySem.W.Frag) (C : Addr) (m : Str) (st : Stmt) (ps : List Str) (f : Addr) (fd : FuncData) : Prop where
  M : Meth K C m f
  b : Binds K fd ps []
theorem passN {X : Cx} : Passes (L2N.CX X.prog X.w) X E0 := fun _ _ _ _ _ _ _ h => by
  obtain ⟨_, _, _, _, _, _, _, _, _, _, _, _, h⟩ := h
  exact h.elim
end Kw
set_option Elab.async false
set_option linter.all false
set_option maxRecDepth 100000
set_option maxHeartbeats 4000000
namespace Kw
open PySem PySem.Spec PyProof.Rows L2 Evl
abbrev sWho : Stmt := topS 21
theorem scWho : FnScope ["thing"] ["thing"] (defScope sWho) := ⟨rfl, rfl, rfl, by decide +kernel, rfl, by decide +kernel, by decide +kernel⟩
section
variable {P : Program} {w : World} {K : PySem.W.Frag} {mg : Str → Option Value} {base : Heap}
def spWho (K : PySem.W.Frag) : Sp := fun vs H Q _ => ∃ (x : V) (T : String) (b1 b2 : Bool), vs = [x] ∧ (∀ H1, Ex H H1 → TyX K H1 x (.type T)) ∧ kitB T "int" = some b1 ∧ kitB T "bool" = some b2 ∧ RetV (.bl (b1 && !b2)) H Q
theorem ok_who {f  : Addr} {fd  : FuncData} {k : Nat} (F : Fun K "is_whole" "is_whole" sWho f fd) (B : Bu mg) : FnOk P w K mg base CX0 (k + 1) f fd ["thing"] (spWho K) := by
  refine F.ok scWho (fun vs H Q E h => ?_) (fun cdv A outer s H vs Q E hr h => ?_)
  · obtain ⟨x, T, b1, b2, rfl, _⟩ := h
    rfl
  · obtain ⟨x, T, b1, b2, rfl, hT, h1, h2, q⟩ := h
    refine ⟨_, (pss_one (ps_ret (pe_and (pe_callB call_isi (by rfl) B.isi boot_isinstance (pa_cons (pv 0) (pa_cons (pe_bltn (v := .ty "int") (by rfl) B.int boot_int rfl) pa_nil))) (pe_one (pe_not (pe_callB call_isi (by rfl) B.isi boot_isinstance (pa_cons (pv 0) (pa_cons (pe_bltn (v := .ty "bool") (by rfl) B.bool (by decide +kernel) rfl) pa_nil)))))))), ?_⟩
    exact s_ret (v := .bl (b1 && !b2)) (ev_andV (ev_isi (K := K) (ev_var (v := x) rfl) ev_c hT h1) fun _ => ev_notV (ev_isi (K := K) (ev_var (v := x) rfl) ev_c hT h2)) (fun H1 e1 => q H1 e1)
theorem who_int {H : Hp} {i : Int} {Q : VK} {E : XK} (q : RetV (.bl true) H Q) : spWho K [.int i] H Q E := ⟨.int i, "int", true, false, rfl, fun H1 _ => .base (.int i), by decide +kernel, by decide +kernel, q⟩
theorem who_dp {H : Hp} {v : V} {d : PyData} {Q : VK} {E : XK} (h : Dp K H v d) (q : RetV (.bl (isIntD d)) H Q) : spWho K [v] H Q E := by
  refine ⟨v, tyOf d, _, _, rfl, fun H1 e => ty_dp (dp_ex e _ _ h), kit_int h, kit_bol h, ?_⟩
  have e : ((isIntD d || isBolD d) && !isBolD d) = isIntD d := by cases d <;> rfl
  rw [e]
  exact q
end
end Kw
set_option Elab.async false
set_option linter.all false
set_option maxRecDepth 100000
set_option maxHeartbeats 4000000
namespace Kw
open PySem PySem.Spec PyProof.Rows L2 Evl KwX NdefX LamX
abbrev sKpH : Stmt := sMt 41 7
theorem scKpH : FnScope ["self"] ["self"] (defScope sKpH) := ⟨rfl, rfl, rfl, by decide +kernel, rfl, by decide +kernel, by decide +kernel⟩
abbrev sKpP : Stmt := sMt 41 8
theorem scKpP : FnScope ["self"] ["self"] (defScope sKpP) := ⟨rfl, rfl, rfl, by decide +kernel, rfl, by decide +kernel, by decide +kernel⟩
abbrev sKpN : Stmt := sMt 41 9
theorem scKpN : FnScope ["self"] ["self"] (defScope sKpN) := ⟨rfl, rfl, rfl, by decide +kernel, rfl, by decide +kernel, by decide +kernel⟩
abbrev sKpC : Stmt := sMt 41 15
theorem scKpC : FnScope ["self", "box"] ["self", "box"] (defScope sKpC) := ⟨rfl, rfl, rfl, by decide +kernel, rfl, by decide +kernel, by decide +kernel⟩
abbrev sKpD : Stmt := sMt 41 10
theorem scKpD : FnScope ["self", "box"] ["self", "box"] (defScope sKpD) := ⟨rfl, rfl, rfl, by decide +kernel, rfl, by decide +kernel, by decide +kernel⟩
abbrev sKpK : Stmt := sMt 41 14
theorem scKpK : FnScope ["self", "box"] ["self", "box"] (defScope sKpK) := ⟨rfl, rfl, rfl, by decide +kernel, rfl, by decide +kernel, by decide +kernel⟩
abbrev sKpU : Stmt := sMt 41 16
theorem scKpU : FnScope ["self", "box"] ["self", "box"] (defScope sKpU) := ⟨rfl, rfl, rfl, by decide +kernel, rfl, by decide +kernel, by decide +kernel⟩
abbrev sKpV : Stmt := sMt 41 17
theorem scKpV : FnScope ["self", "box"] ["self", "box"] (defScope sKpV) := ⟨rfl, rfl, rfl, by decide +kernel, rfl, by decide +kernel, by decide +kernel⟩
abbrev sKpG : Stmt := sMt 41 19
theorem scKpG : FnScope ["self", "state"] ["self", "state"] (defScope sKpG) := ⟨rfl, rfl, rfl, by decide +kernel, rfl, by decide +kernel, by decide +kernel⟩
abbrev sKpF : Stmt := sMt 41 18
theorem scKpF : FnScope ["self", "box", "broken", "hand", "opened"] ["self", "box", "broken"] (defScope sKpF) := ⟨rfl, rfl, rfl, by decide +kernel, rfl, by decide +kernel, by decide +kernel⟩
abbrev sKpO : Stmt := sMt 41 1
theorem scKpO : FnScope ["self", "box", "colour"] ["self", "box"] (defScope sKpO) := ⟨rfl, rfl, rfl, by decide +kernel, rfl, by decide +kernel, by decide +kernel⟩
abbrev sKpB : Stmt := sMt 41 2
theorem scKpB : FnScope ["self", "box"] ["self", "box"] (defScope sKpB) := ⟨rfl, rfl, rfl, by decide +kernel, rfl, by decide +kernel, by decide +kernel⟩
abbrev sKpS : Stmt := sMt 41 3
theorem scKpS : FnScope ["self", "box", "hand", "opened", "broken", "lying"] ["self", "box"] (defScope sKpS) := ⟨rfl, rfl, rfl, by decide +kernel, rfl, by decide +kernel, by decide +kernel⟩
abbrev sKpT : Stmt := sMt 41 4
theorem scKpT : FnScope ["self", "box"] ["self", "box"] (defScope sKpT) := ⟨rfl, rfl, rfl, by decide +kernel, rfl, by decide +kernel, by decide +kernel⟩
abbrev sKpY : Stmt := sMt 41 5
theorem scKpY : FnScope ["self", "colour", "box", "keys", "hand", "opened", "broken", "lying"] ["self", "colour", "box"] (defScope sKpY) := ⟨rfl, rfl, rfl, by decide +kernel, rfl, by decide +kernel, by decide +kernel⟩
abbrev sKpR : Stmt := sMt 41 6
theorem scKpR : FnScope ["self"] ["self"] (defScope sKpR) := ⟨rfl, rfl, rfl, by decide +kernel, rfl, by decide +kernel, by decide +kernel⟩
abbrev sKpA : Stmt := sMt 41 11
theorem scKpA : FnScope ["self", "boxes", "box"] ["self"] (defScope sKpA) := ⟨rfl, rfl, rfl, by decide +kernel, rfl, by decide +kernel, by decide +kernel⟩
abbrev sKpL : Stmt := sMt 41 12
theorem scKpL : FnScope ["self"] ["self"] (defScope sKpL) := ⟨rfl, rfl, rfl, by decide +kernel, rfl, by decide +kernel, by decide +kernel⟩
abbrev sKpE : Stmt := sMt 41 13
theorem scKpE : FnScope ["self", "other"] ["self", "other"] (defScope sKpE) := ⟨rfl, rfl, rfl, by decide +kernel, rfl, by decide +kernel, by decide +kernel⟩
abbrev sKpI : Stmt := sMt 41 0
theorem scKpI : FnScope ["self", "house", "boxes", "hand", "locks", "keys"] ["self", "house"] (defScope sKpI) := ⟨rfl, rfl, rfl, by decide +kernel, rfl, by decide +kernel, by decide +kernel⟩
/-! ### lists that rise are known by what is in them -/
theorem pw_unique {α : Type} {r : α → α → Prop} (ir : ∀ a, ¬ r a a) (tr : ∀ a b c, r a b → r b c → r a c) : ∀ {xs ys : List α}, xs.Pairwise r → ys.Pairwise r → (∀ z, z ∈ xs ↔ z ∈ ys) → xs = ys
  | [], [], _, _, _ => rfl
  | [], y :: ys, _, _, h => by have := (h y).mpr (List.mem_cons_self ..); cases this
  | x :: xs, [], _, _, h => by have := (h x).mp (List.mem_cons_self ..); cases this
  | x :: xs, y :: ys, hx, hy, h => by
    rw [List.pairwise_cons] at hx hy
    have e : x = y := by
      rcases List.mem_cons.mp ((h x).mp (List.mem_cons_self ..)) with z | z
      · exact z
      · rcases List.mem_cons.mp ((h y).mpr (List.mem_cons_self ..)) with w | w
        · exact w.symm
        · exact absurd (tr _ _ _ (hx.1 y w) (hy.1 x z)) (ir x)
    subst e
    rw [pw_unique ir tr hx.2 hy.2 fun z => ?_]
    constructor
    · intro hz
      rcases List.mem_cons.mp ((h z).mp (List.mem_cons_of_mem _ hz)) with w | w
      · subst w; exact absurd (hx.1 z hz) (ir z)
      · exact w
    · intro hz
      rcases List.mem_cons.mp ((h z).mpr (List.mem_cons_of_mem _ hz)) with w | w
      · subst w; exact absurd (hy.1 z hz) (ir z)
      · exact w
def ltS (a b : Str) : Prop := a.cps.toList < b.cps.toList
theorem ltS_tr (a b c : Str) (h1 : ltS a b) (h2 : ltS b c) : ltS a c := List.lt_trans h1 h2
theorem ltS_ir (a : Str) : ¬ ltS a a := List.lt_irrefl _
theorem rising_pwS : ∀ {cs : List Str}, Rising cs → cs.Pairwise ltS
  | [], _ => .nil
  | [a], _ => by simp
  | a :: b :: r, h => by
    have ih : (b :: r).Pairwise ltS := rising_pwS fun i x y hx hy => h (i + 1) x y hx hy
    refine List.pairwise_cons.mpr ⟨fun z hz => ?_, ih⟩
    have hab : ltS a b := h 0 a b rfl rfl
    rcases List.mem_cons.mp hz with rfl | hz
    · exact hab
    · exact ltS_tr _ _ _ hab ((List.pairwise_cons.mp ih).1 z hz)
theorem pwS_rising {cs : List Str} (h : cs.Pairwise ltS) : Rising cs := fun i x y hx hy => by
  obtain ⟨h1, rfl⟩ := List.getElem?_eq_some_iff.mp hx
  obtain ⟨h2, rfl⟩ := List.getElem?_eq_some_iff.mp hy
  exact (List.pairwise_iff_getElem.mp h) i (i + 1) h1 h2 (Nat.lt_succ_self i)
open Classical in
noncomputable def uniL (xs zs : List Str) : List Str := if h : ∃ ys, Uni xs zs ys then h.choose else []
theorem Uni.uniq {xs zs ys ws : List Str} (u : Uni xs zs ys) (v : Uni xs zs ws) : ys = ws := pw_unique ltS_ir ltS_tr (rising_pwS u.2.1) (rising_pwS v.2.1) fun z => (u.2.2 z).trans (v.2.2 z).symm
theorem Uni.eq {xs zs ys : List Str} (u : Uni xs zs ys) : ys = uniL xs zs := by
  unfold uniL
  have h : ∃ ys, Uni xs zs ys := ⟨ys, u⟩
  rw [dif_pos h]
  exact u.uniq h.choose_spec
def UniN (xs zs ys : List Nat) : Prop := ys.Pairwise (· < ·) ∧ ∀ z, z ∈ ys ↔ z ∈ xs ++ zs
open Classical in
noncomputable def uniN (xs zs : List Nat) : List Nat := if h : ∃ ys, UniN xs zs ys then h.choose else []
theorem UniN.uniq {xs zs ys ws : List Nat} (u : UniN xs zs ys) (v : UniN xs zs ws) : ys = ws := pw_unique (fun a => Nat.lt_irrefl a) (fun a b c => Nat.lt_trans) u.1 v.1 fun z => (u.2 z).trans (v.2 z).symm
theorem UniN.eq {xs zs ys : List Nat} (u : UniN xs zs ys) : ys = uniN xs zs := by
  unfold uniN
  have h : ∃ ys, UniN xs zs ys := ⟨ys, u⟩
  rw [dif_pos h]
  exact u.uniq h.choose_spec
/-! ### rows -/
section
variable {K : PySem.W.Frag} {σ : L2.St} {H H' : Hp} {ta tb tc te tl : TE}
theorem ep_catTT {xs ys : List V} (ha : EvP ta σ H (IsT K xs)) (hb : EvP tb σ H (IsT K ys)) (hn : xs.length + ys.length ≤ 100000) : EvP (tOp (rCatA K) ta tb) σ H (IsT K (xs ++ ys)) := fun H1 e Q q =>
  ha H1 e _ fun v H2 e2 ⟨p, hv, hp⟩ => hb H2 (e.trans e2) _ fun u H3 e3 ⟨p', hu, hp'⟩ => by
    subst hv hu
    exact catT (K := K) (ex_t e3 hp) hp' hn fun v H4 e4 h4 => q v H4 ((e2.trans e3).trans e4) h4
theorem ep_tup1 {v : V} (ha : Ev ta σ H v) : EvP (tTup (tCons ta tNil)) σ H (IsT K [v]) := fun H1 e Q q => ha H1 e _ fun H2 e2 => ⟨sz_of (by show 1 ≤ 100000; decide), fun p hp => q _ _ (e2.trans (Ex.new hp)) ⟨p, rfl, st_of upd_same⟩⟩
end
def plcD (m : Nat) : PyData → Bool
  | .int i => decide (0 ≤ i) && decide (i < (m : Int))
  | _ => false
/-- the box that is meant, if there is one -/
def boxN (n : Nat) : PyData → Option Nat
  | .int i => if 0 ≤ i ∧ i < (n : Int) then some i.toNat else none
  | _ => none
theorem plc_box {n : Nat} {d : PyData} : plcD n d = (boxN n d).isSome := by
  cases d with
  | int i =>
    show (decide (0 ≤ i) && decide (i < (n : Int))) = (if 0 ≤ i ∧ i < (n : Int) then some i.toNat else none).isSome
    by_cases h1 : 0 ≤ i <;> by_cases h2 : i < (n : Int) <;> simp [h1, h2]
  | _ => rfl
theorem boxN_some {n i : Nat} {d : PyData} (h : boxN n d = some i) : i < n ∧ d = .int i := by
  cases d with
  | int j =>
    have h : (if 0 ≤ j ∧ j < (n : Int) then some j.toNat else none) = some i := h
    split at h
    · rename_i hj
      have := Option.some.inj h
      exact ⟨by omega, by congr 1; omega⟩
    · cases h
  | _ => cases h
theorem boxN_val {K : PySem.W.Frag} {H : Hp} {v : V} {n i : Nat} {d : PyData} (hd : Dp K H v d) (h : boxN n d = some i) : v = vN i ∧ i < n := by
  obtain ⟨h1, rfl⟩ := boxN_some h
  cases hd
  exact ⟨rfl, h1⟩
theorem boxN_nat {n i : Nat} (h : i < n) : boxN n (.int i) = some i := by
  show (if 0 ≤ (i : Int) ∧ (i : Int) < (n : Int) then some (i : Int).toNat else none) = some i
  rw [if_pos ⟨by omega, by omega⟩, Int.toNat_natCast]
section
variable {P : Program} {w : World} {K : PySem.W.Frag} {mg : Str → Option Value} {base : Heap}
def spJnS (K : PySem.W.Frag) : Sp := fun vs H Q _ => ∃ (a b : Addr) (xs zs : List Str), vs = [.ref a, .ref b] ∧ SqT K H a (xs.map V.str) ∧ SqT K H b (zs.map V.str) ∧ xs.length + zs.length ≤ 50 ∧ ∀ p H', Ex H H' → SqT K H' p ((uniL xs zs).map V.str) → Uni xs zs (uniL xs zs) → Q (.ref p) H'
theorem ok_jnS {f  : Addr} {fd  : FuncData} {k : Nat} (F : Fun K "joined" "joined" sJn f fd) (B : Bu mg) : FnOk P w K mg base CX0 (k + 1) f fd ["row", "more"] (spJnS K) := by
  refine F.ok scJn (fun vs H Q E h => ?_) (fun cdv A outer s H vs Q E hr h => ?_)
  · obtain ⟨a, b, xs, zs, rfl, _⟩ := h
    rfl
  · obtain ⟨a, b, xs, zs, rfl, ha, hb, hn, q⟩ := h
    refine ⟨_, (pss_one (ps_ret (pe_callTy call_tupOf (by rfl) B.tup boot_tuple (pa_cons (pe_callB (KwS.cr_sortTx rfl) (by rfl) B.srt PyProof.Rows.boot_sorted (pa_cons (pe_callTy (KwS.cr_setTx rfl) (by rfl) B.set PyProof.Rows.boot_set (pa_cons (pe_op op_catA (pv 0) (pv 1)) pa_nil)) pa_nil)) pa_nil)))), ?_⟩
    refine ⟨.ref a, rfl, .ref b, rfl, ?_⟩
    refine catT (K := K) ha hb (by rw [List.length_map, List.length_map]; omega) fun v H2 e2 hv => ?_
    rw [← List.map_append] at hv
    refine uni_fin (P := P) (w := w) (K := K) (σ := []) hv hn fun ys t H3 e3 hu ht => ?_
    have e := hu.eq
    subst e
    exact q t H3 (e2.trans e3) ht hu
def spJnN (K : PySem.W.Frag) : Sp := fun vs H Q _ => ∃ (a b : Addr) (xs zs : List Nat), vs = [.ref a, .ref b] ∧ SqT K H a (xs.map vN) ∧ SqT K H b (zs.map vN) ∧ xs.length + zs.length ≤ 50 ∧ ∀ p H', Ex H H' → SqT K H' p ((uniN xs zs).map vN) → UniN xs zs (uniN xs zs) → Q (.ref p) H'
theorem nats_back {ys : List Int} {xs : List Nat} (h : ∀ z, z ∈ ys ↔ z ∈ xs.map fun (i : Nat) => (i : Int)) : ∃ ms : List Nat, ys = ms.map fun (i : Nat) => (i : Int) := by
  refine ⟨ys.map Int.toNat, ?_⟩
  rw [List.map_map]
  conv => lhs; rw [← List.map_id ys]
  apply List.map_congr_left
  intro z hz
  obtain ⟨i, _, rfl⟩ := List.mem_map.mp ((h z).mp hz)
  simp
theorem ok_jnN {f  : Addr} {fd  : FuncData} {k : Nat} (F : Fun K "joined" "joined" sJn f fd) (B : Bu mg) : FnOk P w K mg base CX0 (k + 1) f fd ["row", "more"] (spJnN K) := by
  refine F.ok scJn (fun vs H Q E h => ?_) (fun cdv A outer s H vs Q E hr h => ?_)
  · obtain ⟨a, b, xs, zs, rfl, _⟩ := h
    rfl
  · obtain ⟨a, b, xs, zs, rfl, ha, hb, hn, q⟩ := h
    refine ⟨_, (pss_one (ps_ret (pe_callTy call_tupOf (by rfl) B.tup boot_tuple (pa_cons (pe_callB (KwZ.cr_sortSI rfl) (by rfl) B.srt PyProof.Rows.boot_sorted (pa_cons (pe_callTy (KwZ.cr_setIT rfl) (by rfl) B.set PyProof.Rows.boot_set (pa_cons (pe_op op_catA (pv 0) (pv 1)) pa_nil)) pa_nil)) pa_nil)))), ?_⟩
    refine ⟨.ref a, rfl, .ref b, rfl, ?_⟩
    refine catT (K := K) ha hb (by rw [List.length_map, List.length_map]; omega) fun v H2 e2 ⟨p, hv, hp⟩ => ?_
    subst hv
    rw [← List.map_append, nats_int] at hp
    refine ⟨p, _, rfl, hp, by rw [List.length_map, List.length_append]; exact hn, fun t nt => ⟨t, _, rfl, upd_same, by rw [List.length_map, List.length_append]; exact hn, fun ys l nd hm hs nl => ?_⟩⟩
    obtain ⟨ms, rfl⟩ := nats_back hm
    refine ⟨l, _, rfl, .inl ⟨sq_of upd_same, fun u nu => ?_⟩⟩
    have hu : UniN xs zs ms := by
      refine ⟨?_, fun z => ?_⟩
      · have h1 := List.pairwise_map.mp hs
        have h2 : ms.Nodup := (List.pairwise_map.mp nd).imp fun h z => h (by rw [z])
        exact (h1.and h2).imp fun ⟨h3, h4⟩ => by omega
      · have := hm (z : Int)
        rw [List.mem_map, List.mem_map] at this
        constructor
        · intro hz
          obtain ⟨i, hi, e⟩ := this.mp ⟨z, hz, rfl⟩
          have : i = z := by omega
          exact this ▸ hi
        · intro hz
          obtain ⟨i, hi, e⟩ := this.mpr ⟨z, hz, rfl⟩
          have : i = z := by omega
          exact this ▸ hi
    have e := hu.eq
    subst e
    have e3 := ((Ex.new nt).trans (Ex.new nl)).trans (Ex.new (o := .tup (((uniN xs zs).map fun (i : Nat) => (i : Int)).map V.int)) nu)
    exact q u _ (e2.trans e3) (by rw [nats_int]; exact st_of upd_same) hu
def spWoN (K : PySem.W.Frag) : Sp := fun vs H Q _ => ∃ (a : Addr) (xs : List Nat) (i : Nat), vs = [.ref a, vN i] ∧ SqT K H a (xs.map vN) ∧ xs.length ≤ 1000 ∧ RetU ((xs.filter fun x => !decide (x = i)).map vN) H Q
theorem ok_woN {f  : Addr} {fd  : FuncData} {k : Nat} (F : Fun K "without" "without" sWo f fd) (B : Bu mg) : FnOk P w K mg base CX0 (k + 1) f fd ["row", "gone"] (spWoN K) := by
  refine F.ok scWo (fun vs H Q E h => ?_) (fun cdv A outer s H vs Q E hr h => ?_)
  · obtain ⟨a, xs, i, rfl, _⟩ := h
    rfl
  · obtain ⟨a, xs, i, rfl, ha, hn, q⟩ := h
    refine ⟨_, (pss_one (ps_ret (pe_callTy call_tupOf (by rfl) B.tup boot_tuple (pa_cons (pe_lc (own := [("part", 2)]) (g := (gName 2)) (tt := (tTest (tOp rNe (tVar 2) (tVar 1)))) (te := (tVar 2)) rfl scWo.nd (pi_tup (pv 0)) (blkOk_by (N := ["row", "gone", "part"]) (sc := defScope sWo) (by decide +kernel)) (fun _ _ _ _ _ => (pg_name (i := 2) scWo.nd rfl (.inl rfl))) (fun _ _ _ _ _ => (pts_one (pt_cmpR op_ne (pv 2) (pv 1) (nomark _)))) (fun _ _ _ _ _ => (pv 2))) pa_nil)))), ?_⟩
    have hE : EvL (tLc (iTup K (tVar 0)) (gName 2) (tTest (tOp rNe (tVar 2) (tVar 1))) (tVar 2) [2]) [some (.ref a), some (vN i), none] H ((xs.filter fun x => !decide (x = i)).map vN) := by
      refine el_lc (ew_tup (K := K) (ev_var rfl) ha) (by rw [List.length_map]; omega) (fun k => !decide (xs.getD k 0 = i)) (fun k => vN (xs.getD k 0)) (by rw [List.length_map]; exact filter_range_map xs 0 (fun x => !decide (x = i)) vN) (fun k x H1 H2 Q e hk hy q => ?_)
      obtain ⟨rfl, hx⟩ := hy
      rw [List.getElem?_map] at hx
      obtain ⟨z, hz, rfl⟩ := Option.map_eq_some_iff.mp hx
      have hg : xs.getD k 0 = z := by rw [List.getD_eq_getElem?_getD, hz]; rfl
      refine q _ _ (Ex.refl _) rfl (et_is (et_test (ev_op (ev_var (v := vN z) rfl) (ev_var (v := vN i) rfl) (rv_ne rfl))) (by
        rw [hg]
        congr 1
        by_cases e : z = i
        · rw [decide_eq_true e, e]; exact decide_eq_true rfl
        · rw [decide_eq_false e]
          exact decide_eq_false fun y => e (by have := V.int.inj y; omega))) fun _ => by rw [hg]; exact ev_var rfl
    exact eu_tupN (K := K) hE H (Ex.refl H) _ fun p H1 np e1 hp => q p H1 np e1 hp
def spChg (K : PySem.W.Frag) : Sp := fun vs H Q _ => ∃ (a : Addr) (xs : List V) (i : Nat) (v : V), vs = [.ref a, vN i, v] ∧ SqT K H a xs ∧ i < xs.length ∧ xs.length ≤ 1000 ∧ ∀ p H', Ex H H' → SqT K H' p (xs.set i v) → Q (.ref p) H'
theorem ok_chg {f  : Addr} {fd  : FuncData} {k : Nat} (F : Fun K "changed" "changed" sChg f fd) : FnOk P w K mg base CX0 (k + 1) f fd ["row", "place", "part"] (spChg K) := by
  refine F.ok scChg (fun vs H Q E h => ?_) (fun cdv A outer s H vs Q E hr h => ?_)
  · obtain ⟨a, xs, i, v, rfl, _⟩ := h
    rfl
  · obtain ⟨a, xs, i, v, rfl, ha, hi, hn, q⟩ := h
    refine ⟨_, (pss_one (ps_ret (pe_op op_catA (pe_op op_catA (pe_slice sl_tupA (pv 0) po_none (po_some (pv 1))) (pe_tup (pa_cons (pv 2) pa_nil))) (pe_slice sl_tupA (pv 0) (po_some (pe_op op_add (pv 1) pe_int)) po_none)))), ?_⟩
    have hE : EvP (tOp (rCatA K) (tOp (rCatA K) (tSl (rSlA K) (tVar 0) tNoPart (tPart (tVar 1))) (tTup (tCons (tVar 2) tNil))) (tSl (rSlA K) (tVar 0) (tPart (tOp (rI0 fun i j => .int (i + j)) (tVar 1) (tC (.int 1)))) tNoPart)) [some (.ref a), some (vN i), some v] H (IsT K (xs.set i v)) := by
      have h1 := ep_slT (K := K) (H := H) (σ := [some (.ref a), some (vN i), some v]) (te := tVar 0) (tl := tNoPart) (th := tPart (tVar 1)) (lo := none) (hi := some (i : Int)) (ev_var rfl) eo_none (eo_some (ev_var rfl)) ha
      have h2 := ep_slT (K := K) (H := H) (σ := [some (.ref a), some (vN i), some v]) (te := tVar 0) (th := tNoPart) (tl := tPart (tOp (rI0 fun i j => .int (i + j)) (tVar 1) (tC (.int 1)))) (lo := some ((i + 1 : Nat) : Int)) (hi := none) (ev_var rfl) (eo_some (ev_is (ev_op (ev_var (v := vN i) rfl) ev_c rv_I0) (by rw [Int.natCast_add]; rfl))) eo_none ha
      rw [cut_take] at h1
      rw [cut_drop] at h2
      have h3 := ep_catTT (K := K) (ep_catTT (K := K) h1 (ep_tup1 (K := K) (v := v) (ev_var (i := 2) rfl)) (by rw [List.length_take]; show _ + 1 ≤ _; omega)) h2 (by rw [List.length_append, List.length_take, List.length_drop]; show _ + 1 + _ ≤ _; omega)
      have e : xs.take i ++ [v] ++ xs.drop (i + 1) = xs.set i v := by
        rw [List.set_eq_take_append_cons_drop, if_pos hi, List.append_assoc]
        rfl
      rw [e] at h3
      exact h3
    exact hE H (Ex.refl H) _ fun u H1 e1 ⟨p, hu, hp⟩ => by
      subst hu
      exact q p H1 e1 hp
def spPlc (K : PySem.W.Frag) : Sp := fun vs H Q _ => ∃ (v : V) (d : PyData) (m : Nat), vs = [v, vN m] ∧ Dp K H v d ∧ RetV (.bl (boxN m d).isSome) H Q
theorem ok_plc {f fWho : Addr} {fd fdWho : FuncData} {k : Nat} (F : Fun K "is_place" "is_place" sPlc f fd) (DWho : Df K mg "is_whole" sWho ["thing"] fWho fdWho) (GWho : FnOk P w K mg base CX0 (k + 1) fWho fdWho ["thing"] (spWho K)) : FnOk P w K mg base CX0 (k + 2) f fd ["thing", "many"] (spPlc K) := by
  refine F.ok scPlc (fun vs H Q E h => ?_) (fun cdv A outer s H vs Q E hr h => ?_)
  · obtain ⟨v, d, m, rfl, _⟩ := h
    rfl
  · obtain ⟨v, d, m, rfl, hd, q⟩ := h
    refine ⟨_, (pss_one (ps_ret (pe_and (pcall DWho GWho (hr.mono (by omega)) (pa_cons (pv 0) pa_nil)) (pe_one (pe_chain op_le op_lt pe_int (pv 0) (pv 1)))))), ?_⟩
    rw [← plc_box] at q
    refine s_ret (v := .bl (plcD m d)) (ev_is (ev_andV (b := plcD m d) (ev_call (z := .bl (isIntD d)) (ea_cons (ev_var (v := v) rfl) ea_nil) (SpV.of fun H1 e1 Q q E => who_dp (dp_ex e1 _ _ hd) q)) fun hz => ?_) ?_) (fun H1 e1 => q H1 e1)
    · cases d with
      | int i =>
        cases hd
        exact ev_chain (ev_c (v := .int 0)) (ev_var (v := .int i) rfl) (ev_var (v := vN m) rfl) rv_le rv_I0
      | none => cases hz
      | bool b => cases hz
      | str z => cases hz
      | list ds => cases hz
      | tuple ds => cases hz
      | dict ds => cases hd
    · cases d <;> first | rfl | (show V.bl (true && _) = _; rw [Bool.true_and])
end
end Kw
set_option Elab.async false
set_option linter.all false
set_option maxRecDepth 100000
set_option maxHeartbeats 4000000
namespace Kw
open PySem PySem.Spec PyProof.Rows L2 Evl KwX NdefX LamX
/-- what holds of the states that come -/
structure OkK (h : House) (s : KSt) : Prop where
  hl : s.hand.length ≤ 40
  ol : s.op.length ≤ 40
  bl : s.br.length ≤ 40
  ll : s.ly.length = h.1.length
  l6 : ∀ ks ∈ s.ly, ks.length ≤ 6
  ob : ∀ i ∈ s.op, i < h.1.length
  oh : OkHouse h
def lyAt (s : KSt) (i : Nat) : List Str := s.ly.getD i []
theorem OkK.at6 {h : House} {s : KSt} (o : OkK h s) (i : Nat) : (lyAt s i).length ≤ 6 := by
  unfold lyAt
  rw [List.getD_eq_getElem?_getD]
  cases e : s.ly[i]? with
  | none => simp
  | some ks => exact o.l6 ks (List.mem_of_getElem? e)
def locksOf (h : House) (s : KSt) (i : Nat) : List Str := if i ∈ s.br then [] else (bx h.1 i).1
noncomputable def liftS (s : KSt) (i : Nat) (br : List Nat) : KSt := ⟨uniL s.hand (lyAt s i), uniN s.op [i], br, s.ly.set i []⟩
theorem at4_0 {x y z w : V} : atI [x, y, z, w] 0 = some x := atI_nat (j := 0) rfl
theorem at4_1 {x y z w : V} : atI [x, y, z, w] 1 = some y := atI_nat (j := 1) rfl
theorem at4_2 {x y z w : V} : atI [x, y, z, w] 2 = some z := atI_nat (j := 2) rfl
theorem at4_3 {x y z w : V} : atI [x, y, z, w] 3 = some w := atI_nat (j := 3) rfl
section
variable {K : PySem.W.Frag} {σ : L2.St} {H H' : Hp} {C a dx pl : Addr} {fs : List (Str × V)} {f : Str} {v : V} {i : Nat}
theorem ev_fld (h0 : σ[i]? = some (some (.ref a))) (ha : H a = some (.ins C dx fs)) (c : Cls K C) (n : NoAttr K C f) (l : fs.lookup f = some v) : Ev (L2.tFld K (tVar i) f) σ H v := fun H1 e Q q => ⟨.ref a, h0, a, C, dx, fs, v, rfl, e _ _ ha, c, n, l, q H1 (Ex.refl H1)⟩
theorem mt_call {m : Str} {sp : Sp} {E : XK} {ta : TA} {vs : List V} {Q : VK} (h0 : σ[i]? = some (some (.ref a))) (ha : H a = some (.ins C dx fs)) (nm : fs.lookup m = none) (hs : EvA ta σ H vs) (k : ∀ H1, Ex H H1 → sp (.ref a :: vs) H1 Q E) : tMeth C m sp [] E (tVar i) ta σ H Q :=
  ⟨.ref a, h0, a, dx, fs, rfl, ha, nm, hs H (Ex.refl H) _ fun H1 e => by rw [List.append_nil]; exact k H1 e⟩
theorem cols_get {vs : List V} {ly : List (List Str)} {i : Nat} (h : ColsAt K H vs ly) (hi : i < ly.length) : ∃ p, vs[i]? = some (.ref p) ∧ SqT K H p ((ly.getD i []).map V.str) := by
  obtain ⟨x, hx, p, rfl, hp⟩ := paired_get2 h (List.getElem?_eq_getElem hi)
  refine ⟨p, hx, ?_⟩
  rw [List.getD_eq_getElem?_getD, List.getElem?_eq_getElem hi]
  exact hp
theorem cols_set {vs : List V} {ly : List (List Str)} {i : Nat} {p : Addr} {ks : List Str} : ColsAt K H vs ly → SqT K H p (ks.map V.str) → ColsAt K H (vs.set i (.ref p)) (ly.set i ks) := fun h hp => by
  induction h generalizing i with
  | nil => exact .nil
  | cons r t ih =>
    cases i with
    | zero => exact .cons ⟨p, rfl, hp⟩ t
    | succ i => exact .cons r ih
end
section
variable {P : Program} {w : World} {K : PySem.W.Frag} {mg : Str → Option Value} {base : Heap} {CK XL : Addr} {CD : Nat → Addr}
/-! ### what is told -/
def spKpH (K : PySem.W.Frag) (CK : Addr) (CD : Nat → Addr) (XL : Addr) : Sp := fun vs H Q _ => ∃ (a pl : Addr) (h : House) (s : KSt) (ps : List KSt), vs = [.ref a] ∧ KpAt K CK H a pl h s ps ∧ ∀ p, SqT K H p (s.hand.map V.str) → Q (.ref p) H
def spKpP (K : PySem.W.Frag) (CK : Addr) (CD : Nat → Addr) (XL : Addr) : Sp := fun vs H Q _ => ∃ (a pl : Addr) (h : House) (s : KSt) (ps : List KSt), vs = [.ref a] ∧ KpAt K CK H a pl h s ps ∧ ∀ p, SqT K H p (s.op.map vN) → Q (.ref p) H
def spKpN (K : PySem.W.Frag) (CK : Addr) (CD : Nat → Addr) (XL : Addr) : Sp := fun vs H Q _ => ∃ (a pl : Addr) (h : House) (s : KSt) (ps : List KSt), vs = [.ref a] ∧ KpAt K CK H a pl h s ps ∧ ∀ p, SqT K H p (s.br.map vN) → Q (.ref p) H
theorem ok_kpH {f  : Addr} {fd  : FuncData} {k : Nat} (F : Fun K "hand" "Kept.hand" sKpH f fd) (CL : KCls K mg CK) : FnOk P w K mg base (L2N.CX P w) (k + 1) f fd ["self"] (spKpH K CK CD XL) := by
  refine okN F scKpH (fun vs H Q E h => ?_) (fun cdv A outer s H vs Q E hr h => ?_)
  · obtain ⟨a, pl, h, s, ps, rfl, _⟩ := h
    rfl
  · obtain ⟨a, pl, h, s, ps, rfl, hK, q⟩ := h
    obtain ⟨dx, hv, t, ha, oa, ba, la, lvs, pvs, g1, g2, g3, g4, g5⟩ := hK.parts
    refine ⟨_, (pss_one (ps_ret (pe_ix ix_tup (pe_fld (pv 0) (by rfl)) pe_int (fun _ _ => rfl)))), ?_⟩
    exact ⟨.ref a, rfl, a, CK, dx, _, .ref t, rfl, g1, CL.c, CL.ns, rfl, t, _, 0, .ref ha, rfl, rfl, g4.t, at4_0, q ha g4.h⟩
theorem ok_kpP {f  : Addr} {fd  : FuncData} {k : Nat} (F : Fun K "opened" "Kept.opened" sKpP f fd) (CL : KCls K mg CK) : FnOk P w K mg base (L2N.CX P w) (k + 1) f fd ["self"] (spKpP K CK CD XL) := by
  refine okN F scKpP (fun vs H Q E h => ?_) (fun cdv A outer s H vs Q E hr h => ?_)
  · obtain ⟨a, pl, h, s, ps, rfl, _⟩ := h
    rfl
  · obtain ⟨a, pl, h, s, ps, rfl, hK, q⟩ := h
    obtain ⟨dx, hv, t, ha, oa, ba, la, lvs, pvs, g1, g2, g3, g4, g5⟩ := hK.parts
    refine ⟨_, (pss_one (ps_ret (pe_ix ix_tup (pe_fld (pv 0) (by rfl)) pe_int (fun _ _ => rfl)))), ?_⟩
    exact ⟨.ref a, rfl, a, CK, dx, _, .ref t, rfl, g1, CL.c, CL.ns, rfl, t, _, 1, .ref oa, rfl, rfl, g4.t, at4_1, q oa g4.o⟩
theorem ok_kpN {f  : Addr} {fd  : FuncData} {k : Nat} (F : Fun K "broken" "Kept.broken" sKpN f fd) (CL : KCls K mg CK) : FnOk P w K mg base (L2N.CX P w) (k + 1) f fd ["self"] (spKpN K CK CD XL) := by
  refine okN F scKpN (fun vs H Q E h => ?_) (fun cdv A outer s H vs Q E hr h => ?_)
  · obtain ⟨a, pl, h, s, ps, rfl, _⟩ := h
    rfl
  · obtain ⟨a, pl, h, s, ps, rfl, hK, q⟩ := h
    obtain ⟨dx, hv, t, ha, oa, ba, la, lvs, pvs, g1, g2, g3, g4, g5⟩ := hK.parts
    refine ⟨_, (pss_one (ps_ret (pe_ix ix_tup (pe_fld (pv 0) (by rfl)) pe_int (fun _ _ => rfl)))), ?_⟩
    exact ⟨.ref a, rfl, a, CK, dx, _, .ref t, rfl, g1, CL.c, CL.ns, rfl, t, _, 2, .ref ba, rfl, rfl, g4.t, at4_2, q ba g4.b⟩
/-! ### the checks -/
def spKpC (K : PySem.W.Frag) (CK : Addr) (CD : Nat → Addr) (XL : Addr) : Sp := fun vs H Q E => ∃ (a pl : Addr) (h : House) (s : KSt) (ps : List KSt) (v : V) (d : PyData), vs = [.ref a, v] ∧ KpAt K CK H a pl h s ps ∧ Dp K H v d ∧
  (boxN h.1.length d = none → ∀ H', Ex H H' → E (.ref (CD 6)) none H') ∧ (∀ i, boxN h.1.length d = some i → RetV .non H Q)
theorem ok_kpC {f fPlc : Addr} {fd fdPlc : FuncData} {k : Nat} (F : Fun K "check_box" "Kept.check_box" sKpC f fd) (CL : KCls K mg CK) (DPlc : Df K mg "is_place" sPlc ["thing", "many"] fPlc fdPlc) (GPlc : FnOk P w K mg base CX0 (k + 2) fPlc fdPlc ["thing", "many"] (spPlc K)) (TNoBox : ExcT K mg "NoBox" (CD 6)) (B : Bu mg) : FnOk P w K mg base (L2N.CX P w) (k + 3) f fd ["self", "box"] (spKpC K CK CD XL) := by
  refine okN F scKpC (fun vs H Q E h => ?_) (fun cdv A outer s H vs Q E hr h => ?_)
  · obtain ⟨a, pl, h, s, ps, v, d, rfl, _⟩ := h
    rfl
  · obtain ⟨a, pl, h, s, ps, v, d, rfl, hK, hd, q1, q2⟩ := h
    obtain ⟨dx, hv, t, ha, oa, ba, la, lvs, pvs, g1, g2, g3, g4, g5⟩ := hK.parts
    obtain ⟨hva, hb, hk, rfl, e1, e2, e3⟩ := g3
    refine ⟨_, (pss_one (ps_if (pt_not (pt_val (pcall DPlc GPlc (hr.mono (by omega)) (pa_cons (pv 1) (pa_cons (pe_callB call_len_seq (by rfl) B.len PySem.boot_len (pa_cons (pe_ix ix_tup (pe_fld (pv 0) (by rfl)) pe_int (fun _ _ => rfl)) pa_nil)) pa_nil))))) (pss_one (L2N.ps_raise rfl (L2N.takes_of rfl rfl rfl rfl) (L2N.pmk_own PySem.F.excBase_ValueError TNoBox.q TNoBox.g TNoBox.k (raises_own TNoBox.b TNoBox.t) (by exact rfl)))) pss_nil)), ?_⟩
    have hE : Ev (tCall (spPlc K) [] E0 (tCons (tVar 1) (tCons (tCB (rLenS K) (tCons (tOp (rIxT K) (L2.tFld K (tVar 0) "house") (tC (.int 0))) tNil)) tNil))) [some (.ref a), some v] H (.bl (boxN h.1.length d).isSome) :=
      ev_call (ea_cons (ev_var rfl) (ea_cons (ev_lenB (K := K) (ev_op (ev_fld rfl g1 CL.c CL.nh rfl) ev_c (rv_ixT (K := K) e1 at0)) (BoxesS.of e2)) ea_nil)) (SpV.of fun H1 e Q q E => ⟨v, d, h.1.length, rfl, dp_ex e _ _ hd, q⟩)
    refine s_when (b := !(boxN h.1.length d).isSome) (et_not (et_B hE)) (tu := fun _ _ H => E (.ref (CD 6)) none H) (fun hz H2 e2 => ?_) (fun hz H2 e2 => ?_)
    · cases e : boxN h.1.length d with
      | none => exact q1 e H2 e2
      | some i => rw [e] at hz; cases hz
    · cases e : boxN h.1.length d with
      | none => rw [e] at hz; cases hz
      | some i => exact q2 i e H2 e2
def spKpU (K : PySem.W.Frag) (CK : Addr) (CD : Nat → Addr) (XL : Addr) : Sp := fun vs H Q E => ∃ (a pl : Addr) (h : House) (s : KSt) (ps : List KSt) (v : V) (d : PyData), vs = [.ref a, v] ∧ KpAt K CK H a pl h s ps ∧ Dp K H v d ∧
  (boxN h.1.length d = none → ∀ H', Ex H H' → E (.ref (CD 6)) none H') ∧ (∀ i, boxN h.1.length d = some i → i ∈ s.op → ∀ H', Ex H H' → E (.ref (CD 10)) none H') ∧ (∀ i, boxN h.1.length d = some i → i ∉ s.op → RetV .non H Q)
theorem ok_kpU {f fKpC fKpP : Addr} {fd fdKpC fdKpP : FuncData} {k : Nat} (F : Fun K "check_shut" "Kept.check_shut" sKpU f fd) (CL : KCls K mg CK) (MKpC : MetD K CK "check_box" sKpC ["self", "box"] fKpC fdKpC) (GKpC : FnOk P w K mg base (L2N.CX P w) (k + 3) fKpC fdKpC ["self", "box"] (spKpC K CK CD XL)) (MKpP : MetD K CK "opened" sKpP ["self"] fKpP fdKpP) (GKpP : FnOk P w K mg base (L2N.CX P w) (k + 1) fKpP fdKpP ["self"] (spKpP K CK CD XL)) (TOpen : ExcT K mg "Open" (CD 10)) : FnOk P w K mg base (L2N.CX P w) (k + 4) f fd ["self", "box"] (spKpU K CK CD XL) := by
  refine okN F scKpU (fun vs H Q E h => ?_) (fun cdv A outer s H vs Q E hr h => ?_)
  · obtain ⟨a, pl, h, s, ps, v, d, rfl, _⟩ := h
    rfl
  · obtain ⟨a, pl, h, s, ps, v, d, rfl, hK, hd, q1, q2, q3⟩ := h
    obtain ⟨dx, hv, t, ha, oa, ba, la, lvs, pvs, g1, g2, g3, g4, g5⟩ := hK.parts
    refine ⟨_, (pss_cons (ps_expr (pe_meth (E := E) (pv 0) CL.c MKpC.M GKpC (hr.mono (by omega)) MKpC.b .nil (L2N.passes_call (L2N.takes_of rfl rfl rfl rfl) fun _ _ _ _ h => h) (pa_cons (pv 1) pa_nil)))
      (pss_one (ps_if (pt_cmpR op_in_seq (pv 1) (pe_meth0 (E := E) (pv 0) CL.c MKpP.M GKpP (hr.mono (by omega)) MKpP.b .nil (L2N.passes_call (L2N.takes_of rfl rfl rfl rfl) fun _ _ _ _ h => h)) (by rfl)) (pss_one (L2N.ps_raise rfl (L2N.takes_of rfl rfl rfl rfl) (L2N.pmk_own PySem.F.excBase_ValueError TOpen.q TOpen.g TOpen.k (raises_own TOpen.b TOpen.t) (by exact rfl)))) pss_nil))), ?_⟩
    refine ⟨.ref a, rfl, a, dx, _, rfl, g1, rfl, v, rfl, a, pl, h, s, ps, v, d, rfl, hK, hd, q1, fun i hi H1 e1 => ?_⟩
    obtain ⟨rfl, hin⟩ := boxN_val hd hi
    refine ⟨vN i, rfl, .ref a, rfl, a, dx, _, rfl, e1 _ _ g1, rfl, a, pl, h, s, ps, rfl, hK.ex e1, fun p hp => ⟨p, _, rfl, .inr hp, rfl, flat_nats _, _, rfl, ?_⟩⟩
    show if inV (vN i) (s.op.map vN) = true then _ else _
    rw [inV_nat]
    by_cases z : i ∈ s.op
    · rw [decide_eq_true z, if_pos rfl]
      exact q2 i hi z H1 e1
    · rw [decide_eq_false z, if_neg Bool.false_ne_true]
      exact q3 i hi z H1 e1
def spKpV (K : PySem.W.Frag) (CK : Addr) (CD : Nat → Addr) (XL : Addr) : Sp := fun vs H Q E => ∃ (a pl : Addr) (h : House) (s : KSt) (ps : List KSt) (v : V) (d : PyData), vs = [.ref a, v] ∧ KpAt K CK H a pl h s ps ∧ Dp K H v d ∧
  (boxN h.1.length d = none → ∀ H', Ex H H' → E (.ref (CD 6)) none H') ∧ (∀ i, boxN h.1.length d = some i → i ∉ s.op → ∀ H', Ex H H' → E (.ref (CD 11)) none H') ∧ (∀ i, boxN h.1.length d = some i → i ∈ s.op → RetV .non H Q)
theorem ok_kpV {f fKpC fKpP : Addr} {fd fdKpC fdKpP : FuncData} {k : Nat} (F : Fun K "check_open" "Kept.check_open" sKpV f fd) (CL : KCls K mg CK) (MKpC : MetD K CK "check_box" sKpC ["self", "box"] fKpC fdKpC) (GKpC : FnOk P w K mg base (L2N.CX P w) (k + 3) fKpC fdKpC ["self", "box"] (spKpC K CK CD XL)) (MKpP : MetD K CK "opened" sKpP ["self"] fKpP fdKpP) (GKpP : FnOk P w K mg base (L2N.CX P w) (k + 1) fKpP fdKpP ["self"] (spKpP K CK CD XL)) (TShut : ExcT K mg "Shut" (CD 11)) : FnOk P w K mg base (L2N.CX P w) (k + 4) f fd ["self", "box"] (spKpV K CK CD XL) := by
  refine okN F scKpV (fun vs H Q E h => ?_) (fun cdv A outer s H vs Q E hr h => ?_)
  · obtain ⟨a, pl, h, s, ps, v, d, rfl, _⟩ := h
    rfl
  · obtain ⟨a, pl, h, s, ps, v, d, rfl, hK, hd, q1, q2, q3⟩ := h
    obtain ⟨dx, hv, t, ha, oa, ba, la, lvs, pvs, g1, g2, g3, g4, g5⟩ := hK.parts
    refine ⟨_, (pss_cons (ps_expr (pe_meth (E := E) (pv 0) CL.c MKpC.M GKpC (hr.mono (by omega)) MKpC.b .nil (L2N.passes_call (L2N.takes_of rfl rfl rfl rfl) fun _ _ _ _ h => h) (pa_cons (pv 1) pa_nil)))
      (pss_one (ps_if (pt_cmpR op_notIn_seq (pv 1) (pe_meth0 (E := E) (pv 0) CL.c MKpP.M GKpP (hr.mono (by omega)) MKpP.b .nil (L2N.passes_call (L2N.takes_of rfl rfl rfl rfl) fun _ _ _ _ h => h)) (by rfl)) (pss_one (L2N.ps_raise rfl (L2N.takes_of rfl rfl rfl rfl) (L2N.pmk_own PySem.F.excBase_ValueError TShut.q TShut.g TShut.k (raises_own TShut.b TShut.t) (by exact rfl)))) pss_nil))), ?_⟩
    refine ⟨.ref a, rfl, a, dx, _, rfl, g1, rfl, v, rfl, a, pl, h, s, ps, v, d, rfl, hK, hd, q1, fun i hi H1 e1 => ?_⟩
    obtain ⟨rfl, hin⟩ := boxN_val hd hi
    refine ⟨vN i, rfl, .ref a, rfl, a, dx, _, rfl, e1 _ _ g1, rfl, a, pl, h, s, ps, rfl, hK.ex e1, fun p hp => ⟨p, _, rfl, .inr hp, rfl, flat_nats _, _, rfl, ?_⟩⟩
    show if (!inV (vN i) (s.op.map vN)) = true then _ else _
    rw [inV_nat]
    by_cases z : i ∈ s.op
    · rw [decide_eq_true z, if_neg (by decide)]
      exact q3 i hi z H1 e1
    · rw [decide_eq_false z, if_pos (by decide)]
      exact q2 i hi z H1 e1
def spKpD (K : PySem.W.Frag) (CK : Addr) (CD : Nat → Addr) (XL : Addr) : Sp := fun vs H Q E => ∃ (a pl : Addr) (h : House) (s : KSt) (ps : List KSt) (v : V) (d : PyData), vs = [.ref a, v] ∧ KpAt K CK H a pl h s ps ∧ s.ly.length = h.1.length ∧ Dp K H v d ∧
  (boxN h.1.length d = none → ∀ H', Ex H H' → E (.ref (CD 6)) none H') ∧ (∀ i, boxN h.1.length d = some i → ∀ p H', Ex H H' → SqT K H' p ((lyAt s i).map V.str) → Q (.ref p) H')
theorem ok_kpD {f fKpC : Addr} {fd fdKpC : FuncData} {k : Nat} (F : Fun K "inside" "Kept.inside" sKpD f fd) (CL : KCls K mg CK) (MKpC : MetD K CK "check_box" sKpC ["self", "box"] fKpC fdKpC) (GKpC : FnOk P w K mg base (L2N.CX P w) (k + 3) fKpC fdKpC ["self", "box"] (spKpC K CK CD XL)) : FnOk P w K mg base (L2N.CX P w) (k + 4) f fd ["self", "box"] (spKpD K CK CD XL) := by
  refine okN F scKpD (fun vs H Q E h => ?_) (fun cdv A outer s H vs Q E hr h => ?_)
  · obtain ⟨a, pl, h, s, ps, v, d, rfl, _⟩ := h
    rfl
  · obtain ⟨a, pl, h, s, ps, v, d, rfl, hK, hll, hd, q1, q2⟩ := h
    obtain ⟨dx, hv, t, ha, oa, ba, la, lvs, pvs, g1, g2, g3, g4, g5⟩ := hK.parts
    refine ⟨_, (pss_cons (ps_expr (pe_meth (E := E) (pv 0) CL.c MKpC.M GKpC (hr.mono (by omega)) MKpC.b .nil (L2N.passes_call (L2N.takes_of rfl rfl rfl rfl) fun _ _ _ _ h => h) (pa_cons (pv 1) pa_nil)))
      (pss_one (ps_ret (pe_ix ix_tup (pe_ix ix_tup (pe_fld (pv 0) (by rfl)) pe_int (fun _ _ => rfl)) (pv 1) (fun _ _ => rfl))))), ?_⟩
    refine ⟨.ref a, rfl, a, dx, _, rfl, g1, rfl, v, rfl, a, pl, h, s, ps, v, d, rfl, hK, hd, q1, fun i hi H1 e1 => ?_⟩
    obtain ⟨rfl, hin⟩ := boxN_val hd hi
    obtain ⟨p, hp, hs⟩ := cols_get g4.ls (i := i) (by omega)
    exact ⟨.ref a, rfl, a, CK, dx, _, .ref t, rfl, e1 _ _ g1, CL.c, CL.ns, rfl, t, _, 3, .ref la, rfl, rfl, ex_t e1 g4.t, at4_3, vN i, rfl, la, lvs, (i : Int), .ref p, rfl, rfl, ex_t e1 g4.l, atI_nat hp, q2 i hi p H1 e1 (ex_t e1 hs)⟩
def spKpK (K : PySem.W.Frag) (CK : Addr) (CD : Nat → Addr) (XL : Addr) : Sp := fun vs H Q E => ∃ (a pl : Addr) (h : House) (s : KSt) (ps : List KSt) (i : Nat), vs = [.ref a, vN i] ∧ KpAt K CK H a pl h s ps ∧ i < h.1.length ∧ ∀ p H', Ex H H' → SqT K H' p ((locksOf h s i).map V.str) → Q (.ref p) H'
theorem ok_kpK {f fKpN : Addr} {fd fdKpN : FuncData} {k : Nat} (F : Fun K "locks_of" "Kept.locks_of" sKpK f fd) (CL : KCls K mg CK) (MKpN : MetD K CK "broken" sKpN ["self"] fKpN fdKpN) (GKpN : FnOk P w K mg base (L2N.CX P w) (k + 1) fKpN fdKpN ["self"] (spKpN K CK CD XL)) : FnOk P w K mg base (L2N.CX P w) (k + 2) f fd ["self", "box"] (spKpK K CK CD XL) := by
  refine okN F scKpK (fun vs H Q E h => ?_) (fun cdv A outer s H vs Q E hr h => ?_)
  · obtain ⟨a, pl, h, s, ps, i, rfl, _⟩ := h
    rfl
  · obtain ⟨a, pl, h, s, ps, i, rfl, hK, hi, q⟩ := h
    obtain ⟨dx, hv, t, ha, oa, ba, la, lvs, pvs, g1, g2, g3, g4, g5⟩ := hK.parts
    obtain ⟨hva, hb, hk, rfl, e1, ⟨bvs, e2, e2'⟩, e3⟩ := g3
    refine ⟨_, (pss_one (ps_ret (pe_ifExp (pt_cmpR op_in_seq (pv 1) (pe_meth0 (E := E) (pv 0) CL.c MKpN.M GKpN (hr.mono (by omega)) MKpN.b .nil (L2N.passes_call (L2N.takes_of rfl rfl rfl rfl) fun _ _ _ _ h => h)) (by rfl)) (pe_tup pa_nil) (pe_ix ix_tup (pe_ix ix_tup (pe_ix ix_tup (pe_fld (pv 0) (by rfl)) pe_int (fun _ _ => rfl)) (pv 1) (fun _ _ => rfl)) pe_int (fun _ _ => rfl))))), ?_⟩
    refine ⟨vN i, rfl, .ref a, rfl, a, dx, _, rfl, g1, rfl, a, pl, h, s, ps, rfl, hK, fun p hp => ⟨p, _, rfl, .inr hp, rfl, flat_nats _, _, rfl, ?_⟩⟩
    show if inV (vN i) (s.br.map vN) = true then _ else _
    rw [inV_nat]
    by_cases z : i ∈ s.br
    · rw [decide_eq_true z, if_pos rfl]
      refine ⟨Nat.zero_le _, fun c nc => ?_⟩
      have eN := Ex.new (o := .tup []) nc
      exact q c _ eN (by unfold locksOf; rw [if_pos z]; exact st_of upd_same)
    · rw [decide_eq_false z, if_neg Bool.false_ne_true]
      obtain ⟨bv, hbv, ⟨b1, bl, bk, rfl, f1, f2, f3⟩⟩ := paired_get2 e2' (bx_get hi)
      refine ⟨.ref a, rfl, a, CK, dx, _, .ref hva, rfl, g1, CL.c, CL.nh, rfl, hva, _, 0, .ref hb, rfl, rfl, e1, at0, vN i, rfl, hb, bvs, (i : Int), .ref b1, rfl, rfl, e2, atI_nat hbv, b1, _, 0, .ref bl, rfl, rfl, f1, at0, ?_⟩
      exact q bl H (Ex.refl H) (by unfold locksOf; rw [if_neg z]; exact f2)
/-! ### another state -/
def spKpG (K : PySem.W.Frag) (CK : Addr) (CD : Nat → Addr) (XL : Addr) : Sp := fun vs H Q E => ∃ (a pl : Addr) (h : House) (s s' : KSt) (ps : List KSt) (v : V), vs = [.ref a, v] ∧ KpAt K CK H a pl h s ps ∧ StAt K H v s' ∧ ps.length ≤ 1000 ∧ ∀ H', ExK a pl H H' → KpAt K CK H' a pl h s' (ps ++ [s]) → Q .non H'
theorem ok_kpG {f  : Addr} {fd  : FuncData} {k : Nat} (F : Fun K "go_on" "Kept.go_on" sKpG f fd) (CL : KCls K mg CK) : FnOk P w K mg base (L2N.CX P w) (k + 1) f fd ["self", "state"] (spKpG K CK CD XL) := by
  refine okN F scKpG (fun vs H Q E h => ?_) (fun cdv A outer s H vs Q E hr h => ?_)
  · obtain ⟨a, pl, h, s, s', ps, v, rfl, _⟩ := h
    rfl
  · obtain ⟨a, pl, h, s, s', ps, v, rfl, hK, hv', hn, q⟩ := h
    obtain ⟨dx, hv, sv, pvs, g1, g2, g3, g4, g5⟩ := hK
    have hpa : a ≠ pl := fun z => by rw [z, g2] at g1; cases g1
    have hpl : pvs.length = ps.length := paired_len g5
    refine ⟨_, (pss_cons (ps_expr (pe_bm PySem.F.plainAttrs_list PySem.F.slot_list_append PySem.F.type_list_append mt_append (pe_fld (pv 0) (by rfl)) (pa_cons (pe_fld (pv 0) (by rfl)) pa_nil)))
      (pss_one (ps_fld (pv 0) (pv 1) (by rfl)))), ?_⟩
    refine ⟨.ref a, rfl, a, CK, dx, _, .ref pl, rfl, g1, CL.c, CL.np, rfl, .inl ⟨rfl, _, sq_of g2⟩, .ref a, rfl, a, CK, dx, _, sv, rfl, g1, CL.c, CL.ns, rfl, pl, pvs, sv, rfl, rfl, g2, sz_lt (by omega), ?_⟩
    have f1 : upd H pl (.lst (pvs ++ [sv])) a = some (.ins CK dx [("house", hv), ("state", sv), ("past", .ref pl)]) := by rw [upd_ne hpa]; exact g1
    refine ⟨v, rfl, .ref a, rfl, a, CK, dx, _, rfl, f1, CL.c, CL.ns, by show 3 < 1000; decide, ?_⟩
    have kT : KeepT H (upd (upd H pl (.lst (pvs ++ [sv]))) a (.ins CK dx [("house", hv), ("state", v), ("past", .ref pl)])) := fun b xs r => by
      have n1 : b ≠ a := by
        rintro rfl
        rcases r with r | ⟨o, r⟩ <;> (rw [g1] at r; cases r)
      have n2 : b ≠ pl := by
        rintro rfl
        rcases r with r | ⟨o, r⟩ <;> (rw [g2] at r; cases r)
      rcases r with r | ⟨o, r⟩
      · exact .inl (by rw [upd_ne n1, upd_ne n2]; exact r)
      · exact .inr ⟨o, by rw [upd_ne n1, upd_ne n2]; exact r⟩
    exact q _ (fun b o n1 n2 hb => by rw [upd_ne n1, upd_ne n2]; exact hb) ⟨dx, hv, v, pvs ++ [sv], upd_same, by rw [upd_ne (Ne.symm hpa)]; exact upd_same, g3.keep kT, hv'.keep kT, paired_app (paired_imp g5 fun _ _ z => z.keep kT) (g4.keep kT)⟩
def spKpF (K : PySem.W.Frag) (CK : Addr) (CD : Nat → Addr) (XL : Addr) : Sp := fun vs H Q E => ∃ (a pl bt : Addr) (h : House) (s : KSt) (ps : List KSt) (i : Nat) (br : List Nat), vs = [.ref a, vN i, .ref bt] ∧ KpAt K CK H a pl h s ps ∧ OkK h s ∧ i < h.1.length ∧ SqT K H bt (br.map vN) ∧ ps.length ≤ 1000 ∧
  ∀ H', ExK a pl H H' → KpAt K CK H' a pl h (liftS s i br) (ps ++ [s]) → Uni s.hand (lyAt s i) (uniL s.hand (lyAt s i)) → UniN s.op [i] (uniN s.op [i]) → Q .non H'
theorem ok_kpF {f fKpH fKpD fKpP fJn fChg fKpG : Addr} {fd fdKpH fdKpD fdKpP fdJn fdChg fdKpG : FuncData} {k : Nat} (F : Fun K "lift" "Kept.lift" sKpF f fd) (CL : KCls K mg CK) (MKpH : MetD K CK "hand" sKpH ["self"] fKpH fdKpH) (GKpH : FnOk P w K mg base (L2N.CX P w) (k + 1) fKpH fdKpH ["self"] (spKpH K CK CD XL)) (MKpD : MetD K CK "inside" sKpD ["self", "box"] fKpD fdKpD) (GKpD : FnOk P w K mg base (L2N.CX P w) (k + 4) fKpD fdKpD ["self", "box"] (spKpD K CK CD XL)) (MKpP : MetD K CK "opened" sKpP ["self"] fKpP fdKpP) (GKpP : FnOk P w K mg base (L2N.CX P w) (k + 1) fKpP fdKpP ["self"] (spKpP K CK CD XL)) (DJn : Df K mg "joined" sJn ["row", "more"] fJn fdJn) (GJnS : FnOk P w K mg base CX0 (k + 1) fJn fdJn ["row", "more"] (spJnS K)) (GJnN : FnOk P w K mg base CX0 (k + 1) fJn fdJn ["row", "more"] (spJnN K)) (DChg : Df K mg "changed" sChg ["row", "place", "part"] fChg fdChg) (GChg : FnOk P w K mg base CX0 (k + 1) fChg fdChg ["row", "place", "part"] (spChg K)) (MKpG : MetD K CK "go_on" sKpG ["self", "state"] fKpG fdKpG) (GKpG : FnOk P w K mg base (L2N.CX P w) (k + 1) fKpG fdKpG ["self", "state"] (spKpG K CK CD XL)) : FnOk P w K mg base (L2N.CX P w) (k + 5) f fd ["self", "box", "broken"] (spKpF K CK CD XL) := by
  refine okN F scKpF (fun vs H Q E h => ?_) (fun cdv A outer s H vs Q E hr h => ?_)
  · obtain ⟨a, pl, bt, h, s, ps, i, br, rfl, _⟩ := h
    rfl
  · obtain ⟨a, pl, bt, h, s, ps, i, br, rfl, hK, ok, hi, hbt, hn, q⟩ := h
    obtain ⟨dx, hv, t, ha, oa, ba, la, lvs, pvs, g1, g2, g3, g4, g5⟩ := hK.parts
    have l6 := ok.at6 i
    have l40 := ok.hl
    have o40 := ok.ol
    refine ⟨_, (pss_cons (ps_set (i := 3) scKpF.nd rfl (.inl rfl) (pcall DJn GJnS (hr.mono (by omega)) (pa_cons (pe_meth0 (E := E) (pv 0) CL.c MKpH.M GKpH (hr.mono (by omega)) MKpH.b .nil (L2N.passes_call (L2N.takes_of rfl rfl rfl rfl) fun _ _ _ _ h => h)) (pa_cons (pe_meth (E := E) (pv 0) CL.c MKpD.M GKpD (hr.mono (by omega)) MKpD.b .nil (L2N.passes_call (L2N.takes_of rfl rfl rfl rfl) fun _ _ _ _ h => h) (pa_cons (pv 1) pa_nil)) pa_nil))))
      (pss_cons (ps_set (i := 4) scKpF.nd rfl (.inl rfl) (pcall DJn GJnN (hr.mono (by omega)) (pa_cons (pe_meth0 (E := E) (pv 0) CL.c MKpP.M GKpP (hr.mono (by omega)) MKpP.b .nil (L2N.passes_call (L2N.takes_of rfl rfl rfl rfl) fun _ _ _ _ h => h)) (pa_cons (pe_tup (pa_cons (pv 1) pa_nil)) pa_nil))))
      (pss_one (ps_expr (pe_meth (E := E) (pv 0) CL.c MKpG.M GKpG (hr.mono (by omega)) MKpG.b .nil (L2N.passes_call (L2N.takes_of rfl rfl rfl rfl) fun _ _ _ _ h => h) (pa_cons (pe_tup (pa_cons (pv 3) (pa_cons (pv 4) (pa_cons (pv 2) (pa_cons (pcall DChg GChg (hr.mono (by omega)) (pa_cons (pe_ix ix_tup (pe_fld (pv 0) (by rfl)) pe_int (fun _ _ => rfl)) (pa_cons (pv 1) (pa_cons (pe_tup pa_nil) pa_nil)))) pa_nil))))) pa_nil)))))), ?_⟩
    refine ⟨.ref a, rfl, a, dx, _, rfl, g1, rfl, a, pl, h, s, ps, rfl, hK, fun hp hhp => ?_⟩
    refine ⟨.ref a, rfl, a, dx, _, rfl, g1, rfl, vN i, rfl, a, pl, h, s, ps, vN i, .int i, rfl, hK, ok.ll, .int _, (fun z => by rw [boxN_nat hi] at z; cases z), fun j hj ip H1 e1 hip => ?_⟩
    rw [boxN_nat hi] at hj
    cases hj
    refine ⟨hp, ip, s.hand, lyAt s i, rfl, ex_t e1 hhp, hip, by omega, fun up H2 e2 hup uu => ?_⟩
    have E2 := e1.trans e2
    have hK2 := hK.ex E2
    refine ⟨.ref a, rfl, a, dx, _, rfl, E2 _ _ g1, rfl, a, pl, h, s, ps, rfl, hK2, fun op hop => ?_⟩
    refine ⟨vN i, rfl, by show 1 ≤ sizeLine; decide, fun q1 nq1 => ?_⟩
    have f1 := Ex.new (o := .tup [vN i]) nq1
    refine ⟨op, q1, s.op, [i], rfl, ex_t f1 hop, st_of upd_same, by show _ + 1 ≤ 50; omega, fun vp H3 e3 hvp uv => ?_⟩
    have E3 := (E2.trans f1).trans e3
    have hK3 := hK.ex E3
    refine ⟨.ref a, rfl, a, dx, _, rfl, E3 _ _ g1, rfl, .ref up, rfl, .ref vp, rfl, .ref bt, rfl, .ref a, rfl, a, CK, dx, _, .ref t, rfl, E3 _ _ g1, CL.c, CL.ns, rfl, t, _, 3, .ref la, rfl, rfl, ex_t E3 g4.t, at4_3, vN i, rfl, Nat.zero_le _, fun c nc => ?_⟩
    have f2 := Ex.new (o := .tup []) nc
    have hlv : lvs.length = s.ly.length := paired_len g4.ls
    refine ⟨la, lvs, i, .ref c, rfl, ex_t (E3.trans f2) g4.l, by rw [hlv, ok.ll]; exact hi, by have := ok.oh.2.1; rw [hlv, ok.ll]; omega, fun lp H4 e4 hlp => ?_⟩
    have E4 := (E3.trans f2).trans e4
    refine ⟨by show 4 ≤ sizeLine; decide, fun st nst => ?_⟩
    have f3 := Ex.new (o := .tup [.ref up, .ref vp, .ref bt, .ref lp]) nst
    have E5 := E4.trans f3
    have hc : SqT K (upd H4 st (.tup [.ref up, .ref vp, .ref bt, .ref lp])) c (([] : List Str).map V.str) := st_of ((e4.trans f3) _ _ upd_same)
    have eA := (f2.trans e4).trans f3
    refine ⟨a, pl, h, s, liftS s i br, ps, .ref st, rfl, hK.ex E5, ⟨st, up, vp, bt, lp, lvs.set i (.ref c), rfl, st_of upd_same, ex_t ((((f1.trans e3).trans f2).trans e4).trans f3) hup, ex_t eA hvp, ex_t E5 hbt, ex_t f3 hlp, cols_set (g4.ls.keep (KeepT.ex E5)) hc⟩, hn, fun H6 e6 hK6 => ?_⟩
    exact q H6 ((ExK.ex E5).trans e6) hK6 uu uv
end
end Kw
set_option Elab.async false
set_option linter.all false
set_option maxRecDepth 100000
set_option maxHeartbeats 4000000
namespace Kw
open PySem PySem.Spec PyProof.Rows L2 Evl KwX NdefX LamX
/-- the first lock that has no key in the hand -/
def missing : List Str → List Str → Option Str
  | [], _ => none
  | c :: r, hs => if c ∈ hs then missing r hs else some c
theorem miss_at {hs : List Str} {c : Str} : ∀ {ls : List Str} {i : Nat}, (∀ x ∈ ls.take i, x ∈ hs) → ls[i]? = some c → c ∉ hs → missing ls hs = some c
  | [], _, _, h, _ => by simp at h
  | a :: r, 0, _, h, hc => by
    have : a = c := by simpa using h
    subst this
    show (if a ∈ hs then _ else _) = _
    rw [if_neg hc]
  | a :: r, i + 1, h1, h, hc => by
    show (if a ∈ hs then _ else _) = _
    rw [if_pos (h1 a (by simp)), miss_at (i := i) (fun x hx => h1 x (by rw [List.take_succ_cons]; exact List.mem_cons_of_mem _ hx)) (by simpa using h) hc]
theorem miss_none {hs : List Str} : ∀ {ls : List Str}, (∀ x ∈ ls, x ∈ hs) → missing ls hs = none
  | [], _ => rfl
  | a :: r, h => by
    show (if a ∈ hs then _ else _) = _
    rw [if_pos (h a (List.mem_cons_self ..)), miss_none fun x hx => h x (List.mem_cons_of_mem _ hx)]
def LiftOk (s : KSt) (i : Nat) : Prop := Uni s.hand (lyAt s i) (uniL s.hand (lyAt s i)) ∧ UniN s.op [i] (uniN s.op [i])
section
variable {P : Program} {w : World} {K : PySem.W.Frag} {mg : Str → Option Value} {base : Heap} {CK XL : Addr} {CD : Nat → Addr}
/-! ### open_box -/
def spKpO (K : PySem.W.Frag) (CK : Addr) (CD : Nat → Addr) (XL : Addr) : Sp := fun vs H Q E => ∃ (a pl : Addr) (h : House) (s : KSt) (ps : List KSt) (v : V) (d : PyData), vs = [.ref a, v] ∧ KpAt K CK H a pl h s ps ∧ OkK h s ∧ Dp K H v d ∧ ps.length ≤ 1000 ∧
  (boxN h.1.length d = none → ∀ H', Ex H H' → E (.ref (CD 6)) none H') ∧ (∀ i, boxN h.1.length d = some i → i ∈ s.op → ∀ H', Ex H H' → E (.ref (CD 10)) none H') ∧
  (∀ i c, boxN h.1.length d = some i → i ∉ s.op → missing (locksOf h s i) s.hand = some c → ∀ H' dd, Ex H H' → H' dd = some (.xd [("colour", .str c)]) → E (.ref XL) (some dd) H') ∧
  (∀ i, boxN h.1.length d = some i → i ∉ s.op → missing (locksOf h s i) s.hand = none → ∀ H', ExK a pl H H' → KpAt K CK H' a pl h (liftS s i s.br) (ps ++ [s]) → LiftOk s i → Q .non H')
theorem ok_kpO {f fKpU fKpK fKpH fKpN fKpF : Addr} {fd fdKpU fdKpK fdKpH fdKpN fdKpF : FuncData} {k : Nat} (F : Fun K "open_box" "Kept.open_box" sKpO f fd) (CL : KCls K mg CK) (MKpU : MetD K CK "check_shut" sKpU ["self", "box"] fKpU fdKpU) (GKpU : FnOk P w K mg base (L2N.CX P w) (k + 4) fKpU fdKpU ["self", "box"] (spKpU K CK CD XL)) (MKpK : MetD K CK "locks_of" sKpK ["self", "box"] fKpK fdKpK) (GKpK : FnOk P w K mg base (L2N.CX P w) (k + 2) fKpK fdKpK ["self", "box"] (spKpK K CK CD XL)) (MKpH : MetD K CK "hand" sKpH ["self"] fKpH fdKpH) (GKpH : FnOk P w K mg base (L2N.CX P w) (k + 1) fKpH fdKpH ["self"] (spKpH K CK CD XL)) (MKpN : MetD K CK "broken" sKpN ["self"] fKpN fdKpN) (GKpN : FnOk P w K mg base (L2N.CX P w) (k + 1) fKpN fdKpN ["self"] (spKpN K CK CD XL)) (MKpF : MetD K CK "lift" sKpF ["self", "box", "broken"] fKpF fdKpF) (GKpF : FnOk P w K mg base (L2N.CX P w) (k + 5) fKpF fdKpF ["self", "box", "broken"] (spKpF K CK CD XL)) {fILocked : Addr} {fdILocked : FuncData} (TLocked : IniT K mg "Locked" "colour" XL fILocked fdILocked) (GILocked : FnOk P w K mg base CX0 (k + 1) fILocked fdILocked ["self", "colour"] (spIni XL "colour")) : FnOk P w K mg base (L2N.CX P w) (k + 6) f fd ["self", "box"] (spKpO K CK CD XL) := by
  refine okN F scKpO (fun vs H Q E h => ?_) (fun cdv A outer s H vs Q E hr h => ?_)
  · obtain ⟨a, pl, h, s, ps, v, d, rfl, _⟩ := h
    rfl
  · obtain ⟨a, pl, h, s, ps, v, d, rfl, hK, ok, hd, hn, q1, q2, q3, q4⟩ := h
    obtain ⟨dx, hv, t, ha, oa, ba, la, lvs, pvs, g1, g2, g3, g4, g5⟩ := hK.parts
    refine ⟨_, (pss_cons (ps_expr (pe_meth (E := E) (pv 0) CL.c MKpU.M GKpU (hr.mono (by omega)) MKpU.b .nil (L2N.passes_call (L2N.takes_of rfl rfl rfl rfl) fun _ _ _ _ h => h) (pa_cons (pv 1) pa_nil)))
      (pss_cons (ps_for (L2.passes_of rfl) rfl (pi_tup (pe_meth (E := E) (pv 0) CL.c MKpK.M GKpK (hr.mono (by omega)) MKpK.b .nil (L2N.passes_call (L2N.takes_of rfl rfl rfl rfl) fun _ _ _ _ h => h) (pa_cons (pv 1) pa_nil))) (pg_name (i := 2) scKpO.nd rfl (.inl rfl))
      (pss_one (ps_if (pt_cmpR op_notIn_seq (pv 2) (pe_meth0 (E := E) (pv 0) CL.c MKpH.M GKpH (hr.mono (by omega)) MKpH.b .nil (L2N.passes_call (L2N.takes_of rfl rfl rfl rfl) fun _ _ _ _ h => h)) (by rfl)) (pss_one (L2N.ps_raise rfl (L2N.takes_of rfl rfl rfl rfl) (KwX.mk_init TLocked.O TLocked.i TLocked.ty GILocked (hr.mono (by omega)) TLocked.bn .nil pass0 (by rfl) TLocked.g (pa_cons (pv 2) pa_nil)))) pss_nil)))
      (pss_one (ps_expr (pe_meth (E := E) (pv 0) CL.c MKpF.M GKpF (hr.mono (by omega)) MKpF.b .nil (L2N.passes_call (L2N.takes_of rfl rfl rfl rfl) fun _ _ _ _ h => h) (pa_cons (pv 1) (pa_cons (pe_meth0 (E := E) (pv 0) CL.c MKpN.M GKpN (hr.mono (by omega)) MKpN.b .nil (L2N.passes_call (L2N.takes_of rfl rfl rfl rfl) fun _ _ _ _ h => h)) pa_nil))))))), ?_⟩
    refine ⟨.ref a, rfl, a, dx, _, rfl, g1, rfl, v, rfl, a, pl, h, s, ps, v, d, rfl, hK, hd, q1, q2, fun i hi hz H1 e1 => ?_⟩
    obtain ⟨rfl, hin⟩ := boxN_val hd hi
    refine ⟨.ref a, rfl, a, dx, _, rfl, e1 _ _ g1, rfl, vN i, rfl, a, pl, h, s, ps, i, rfl, hK.ex e1, hin, fun p H2 e2 hp => ⟨p, rfl, ⟨_, hp⟩, ?_⟩⟩
    have E2 := e1.trans e2
    refine for_it (walk_tup (K := K) (a := p) (xs := (locksOf h s i).map V.str)) (fun j σ' H' => Ex H2 H' ∧ (∀ c ∈ (locksOf h s i).take j, c ∈ s.hand) ∧ ∃ y, σ' = [some (.ref a), some (vN i), y]) ⟨Ex.refl H2, (fun c hc => by simp at hc), _, rfl⟩ (fun j σ' H' _ hP => ex_t hP.1 hp) (fun j x σ' H3 H4 hj hP hy => ?_) (fun σ' H3 hP => ?_)
    · obtain ⟨e3, hall, y, rfl⟩ := hP
      obtain ⟨rfl, hx⟩ := hy
      rw [List.getElem?_map] at hx
      obtain ⟨c, hc, rfl⟩ := Option.map_eq_some_iff.mp hx
      have E3 := E2.trans e3
      refine ⟨.str c, rfl, .ref a, rfl, a, dx, _, rfl, E3 _ _ g1, rfl, a, pl, h, s, ps, rfl, hK.ex E3, fun hp' hhp => ⟨hp', _, rfl, .inr hhp, rfl, flat_strs _, _, rfl, ?_⟩⟩
      show if (!inV (.str c) (s.hand.map V.str)) = true then _ else _
      rw [inV_str]
      by_cases z : c ∈ s.hand
      · rw [decide_eq_true z, if_neg (by decide)]
        refine ⟨e3, fun c' hc' => ?_, _, rfl⟩
        rw [List.take_add_one, hc] at hc'
        rcases List.mem_append.mp hc' with w | w
        · exact hall c' w
        · have : c' = c := by simpa using w
          rw [this]; exact z
      · rw [decide_eq_false z, if_pos (by decide)]
        exact mk_ini (σ := [some (.ref a), some (vN i), some (.str c)]) (ea_cons (ev_var rfl) ea_nil) fun dd H4 e4 hdd => q3 i c hi hz (miss_at hall hc z) H4 dd (E3.trans e4) hdd
    · obtain ⟨e3, hall, y, rfl⟩ := hP
      rw [List.length_map, List.take_length] at hall
      have E3 := E2.trans e3
      refine ⟨.ref a, rfl, a, dx, _, rfl, E3 _ _ g1, rfl, vN i, rfl, .ref a, rfl, a, dx, _, rfl, E3 _ _ g1, rfl, a, pl, h, s, ps, rfl, hK.ex E3, fun bp hbp => ?_⟩
      exact ⟨a, pl, bp, h, s, ps, i, s.br, rfl, hK.ex E3, ok, hin, hbp, hn, fun H4 x4 k4 u1 u2 => q4 i hi hz (miss_none hall) H4 ((ExK.ex E3).trans x4) k4 ⟨u1, u2⟩⟩
/-! ### break_box, take, shut_box -/
def spKpB (K : PySem.W.Frag) (CK : Addr) (CD : Nat → Addr) (XL : Addr) : Sp := fun vs H Q E => ∃ (a pl : Addr) (h : House) (s : KSt) (ps : List KSt) (v : V) (d : PyData), vs = [.ref a, v] ∧ KpAt K CK H a pl h s ps ∧ OkK h s ∧ Dp K H v d ∧ ps.length ≤ 1000 ∧
  (boxN h.1.length d = none → ∀ H', Ex H H' → E (.ref (CD 6)) none H') ∧ (∀ i, boxN h.1.length d = some i → i ∈ s.op → ∀ H', Ex H H' → E (.ref (CD 10)) none H') ∧
  (∀ i, boxN h.1.length d = some i → i ∉ s.op → ∀ H', ExK a pl H H' → KpAt K CK H' a pl h (liftS s i (uniN s.br [i])) (ps ++ [s]) → LiftOk s i → UniN s.br [i] (uniN s.br [i]) → Q .non H')
theorem ok_kpB {f fKpU fKpN fJn fKpF : Addr} {fd fdKpU fdKpN fdJn fdKpF : FuncData} {k : Nat} (F : Fun K "break_box" "Kept.break_box" sKpB f fd) (CL : KCls K mg CK) (MKpU : MetD K CK "check_shut" sKpU ["self", "box"] fKpU fdKpU) (GKpU : FnOk P w K mg base (L2N.CX P w) (k + 4) fKpU fdKpU ["self", "box"] (spKpU K CK CD XL)) (MKpN : MetD K CK "broken" sKpN ["self"] fKpN fdKpN) (GKpN : FnOk P w K mg base (L2N.CX P w) (k + 1) fKpN fdKpN ["self"] (spKpN K CK CD XL)) (DJn : Df K mg "joined" sJn ["row", "more"] fJn fdJn) (GJnN : FnOk P w K mg base CX0 (k + 1) fJn fdJn ["row", "more"] (spJnN K)) (MKpF : MetD K CK "lift" sKpF ["self", "box", "broken"] fKpF fdKpF) (GKpF : FnOk P w K mg base (L2N.CX P w) (k + 5) fKpF fdKpF ["self", "box", "broken"] (spKpF K CK CD XL)) : FnOk P w K mg base (L2N.CX P w) (k + 6) f fd ["self", "box"] (spKpB K CK CD XL) := by
  refine okN F scKpB (fun vs H Q E h => ?_) (fun cdv A outer s H vs Q E hr h => ?_)
  · obtain ⟨a, pl, h, s, ps, v, d, rfl, _⟩ := h
    rfl
  · obtain ⟨a, pl, h, s, ps, v, d, rfl, hK, ok, hd, hn, q1, q2, q4⟩ := h
    obtain ⟨dx, hv, t, ha, oa, ba, la, lvs, pvs, g1, g2, g3, g4, g5⟩ := hK.parts
    refine ⟨_, (pss_cons (ps_expr (pe_meth (E := E) (pv 0) CL.c MKpU.M GKpU (hr.mono (by omega)) MKpU.b .nil (L2N.passes_call (L2N.takes_of rfl rfl rfl rfl) fun _ _ _ _ h => h) (pa_cons (pv 1) pa_nil)))
      (pss_one (ps_expr (pe_meth (E := E) (pv 0) CL.c MKpF.M GKpF (hr.mono (by omega)) MKpF.b .nil (L2N.passes_call (L2N.takes_of rfl rfl rfl rfl) fun _ _ _ _ h => h) (pa_cons (pv 1) (pa_cons (pcall DJn GJnN (hr.mono (by omega)) (pa_cons (pe_meth0 (E := E) (pv 0) CL.c MKpN.M GKpN (hr.mono (by omega)) MKpN.b .nil (L2N.passes_call (L2N.takes_of rfl rfl rfl rfl) fun _ _ _ _ h => h)) (pa_cons (pe_tup (pa_cons (pv 1) pa_nil)) pa_nil))) pa_nil)))))), ?_⟩
    refine ⟨.ref a, rfl, a, dx, _, rfl, g1, rfl, v, rfl, a, pl, h, s, ps, v, d, rfl, hK, hd, q1, q2, fun i hi hz H1 e1 => ?_⟩
    obtain ⟨rfl, hin⟩ := boxN_val hd hi
    have b40 := ok.bl
    refine ⟨.ref a, rfl, a, dx, _, rfl, e1 _ _ g1, rfl, vN i, rfl, .ref a, rfl, a, dx, _, rfl, e1 _ _ g1, rfl, a, pl, h, s, ps, rfl, hK.ex e1, fun bp hbp => ?_⟩
    refine ⟨vN i, rfl, by show 1 ≤ sizeLine; decide, fun r nr => ?_⟩
    have f1 := Ex.new (o := .tup [vN i]) nr
    refine ⟨bp, r, s.br, [i], rfl, ex_t f1 hbp, st_of upd_same, by show _ + 1 ≤ 50; omega, fun up H2 e2 hup uu => ?_⟩
    have E2 := (e1.trans f1).trans e2
    exact ⟨a, pl, up, h, s, ps, i, uniN s.br [i], rfl, hK.ex E2, ok, hin, hup, hn, fun H4 x4 k4 u1 u2 => q4 i hi hz H4 ((ExK.ex E2).trans x4) k4 ⟨u1, u2⟩ uu⟩
def spKpT (K : PySem.W.Frag) (CK : Addr) (CD : Nat → Addr) (XL : Addr) : Sp := fun vs H Q E => ∃ (a pl : Addr) (h : House) (s : KSt) (ps : List KSt) (v : V) (d : PyData), vs = [.ref a, v] ∧ KpAt K CK H a pl h s ps ∧ OkK h s ∧ Dp K H v d ∧ ps.length ≤ 1000 ∧
  (boxN h.1.length d = none → ∀ H', Ex H H' → E (.ref (CD 6)) none H') ∧ (∀ i, boxN h.1.length d = some i → i ∉ s.op → ∀ H', Ex H H' → E (.ref (CD 11)) none H') ∧
  (∀ i, boxN h.1.length d = some i → i ∈ s.op → ∀ H', ExK a pl H H' → KpAt K CK H' a pl h (liftS s i s.br) (ps ++ [s]) → LiftOk s i → Q .non H')
theorem ok_kpT {f fKpV fKpN fKpF : Addr} {fd fdKpV fdKpN fdKpF : FuncData} {k : Nat} (F : Fun K "take" "Kept.take" sKpT f fd) (CL : KCls K mg CK) (MKpV : MetD K CK "check_open" sKpV ["self", "box"] fKpV fdKpV) (GKpV : FnOk P w K mg base (L2N.CX P w) (k + 4) fKpV fdKpV ["self", "box"] (spKpV K CK CD XL)) (MKpN : MetD K CK "broken" sKpN ["self"] fKpN fdKpN) (GKpN : FnOk P w K mg base (L2N.CX P w) (k + 1) fKpN fdKpN ["self"] (spKpN K CK CD XL)) (MKpF : MetD K CK "lift" sKpF ["self", "box", "broken"] fKpF fdKpF) (GKpF : FnOk P w K mg base (L2N.CX P w) (k + 5) fKpF fdKpF ["self", "box", "broken"] (spKpF K CK CD XL)) : FnOk P w K mg base (L2N.CX P w) (k + 6) f fd ["self", "box"] (spKpT K CK CD XL) := by
  refine okN F scKpT (fun vs H Q E h => ?_) (fun cdv A outer s H vs Q E hr h => ?_)
  · obtain ⟨a, pl, h, s, ps, v, d, rfl, _⟩ := h
    rfl
  · obtain ⟨a, pl, h, s, ps, v, d, rfl, hK, ok, hd, hn, q1, q2, q4⟩ := h
    obtain ⟨dx, hv, t, ha, oa, ba, la, lvs, pvs, g1, g2, g3, g4, g5⟩ := hK.parts
    refine ⟨_, (pss_cons (ps_expr (pe_meth (E := E) (pv 0) CL.c MKpV.M GKpV (hr.mono (by omega)) MKpV.b .nil (L2N.passes_call (L2N.takes_of rfl rfl rfl rfl) fun _ _ _ _ h => h) (pa_cons (pv 1) pa_nil)))
      (pss_one (ps_expr (pe_meth (E := E) (pv 0) CL.c MKpF.M GKpF (hr.mono (by omega)) MKpF.b .nil (L2N.passes_call (L2N.takes_of rfl rfl rfl rfl) fun _ _ _ _ h => h) (pa_cons (pv 1) (pa_cons (pe_meth0 (E := E) (pv 0) CL.c MKpN.M GKpN (hr.mono (by omega)) MKpN.b .nil (L2N.passes_call (L2N.takes_of rfl rfl rfl rfl) fun _ _ _ _ h => h)) pa_nil)))))), ?_⟩
    refine ⟨.ref a, rfl, a, dx, _, rfl, g1, rfl, v, rfl, a, pl, h, s, ps, v, d, rfl, hK, hd, q1, q2, fun i hi hz H1 e1 => ?_⟩
    obtain ⟨rfl, hin⟩ := boxN_val hd hi
    refine ⟨.ref a, rfl, a, dx, _, rfl, e1 _ _ g1, rfl, vN i, rfl, .ref a, rfl, a, dx, _, rfl, e1 _ _ g1, rfl, a, pl, h, s, ps, rfl, hK.ex e1, fun bp hbp => ?_⟩
    exact ⟨a, pl, bp, h, s, ps, i, s.br, rfl, hK.ex e1, ok, hin, hbp, hn, fun H4 x4 k4 u1 u2 => q4 i hi hz H4 ((ExK.ex e1).trans x4) k4 ⟨u1, u2⟩⟩
def shutS (s : KSt) (i : Nat) : KSt := ⟨s.hand, s.op.filter fun x => !decide (x = i), s.br, s.ly⟩
def spKpS (K : PySem.W.Frag) (CK : Addr) (CD : Nat → Addr) (XL : Addr) : Sp := fun vs H Q E => ∃ (a pl : Addr) (h : House) (s : KSt) (ps : List KSt) (v : V) (d : PyData), vs = [.ref a, v] ∧ KpAt K CK H a pl h s ps ∧ OkK h s ∧ Dp K H v d ∧ ps.length ≤ 1000 ∧
  (boxN h.1.length d = none → ∀ H', Ex H H' → E (.ref (CD 6)) none H') ∧ (∀ i, boxN h.1.length d = some i → i ∉ s.op → ∀ H', Ex H H' → E (.ref (CD 11)) none H') ∧
  (∀ i, boxN h.1.length d = some i → i ∈ s.op → ∀ H', ExK a pl H H' → KpAt K CK H' a pl h (shutS s i) (ps ++ [s]) → Q .non H')
theorem ok_kpS {f fKpV fWo fKpG : Addr} {fd fdKpV fdWo fdKpG : FuncData} {k : Nat} (F : Fun K "shut_box" "Kept.shut_box" sKpS f fd) (CL : KCls K mg CK) (MKpV : MetD K CK "check_open" sKpV ["self", "box"] fKpV fdKpV) (GKpV : FnOk P w K mg base (L2N.CX P w) (k + 4) fKpV fdKpV ["self", "box"] (spKpV K CK CD XL)) (DWo : Df K mg "without" sWo ["row", "gone"] fWo fdWo) (GWoN : FnOk P w K mg base CX0 (k + 1) fWo fdWo ["row", "gone"] (spWoN K)) (MKpG : MetD K CK "go_on" sKpG ["self", "state"] fKpG fdKpG) (GKpG : FnOk P w K mg base (L2N.CX P w) (k + 1) fKpG fdKpG ["self", "state"] (spKpG K CK CD XL)) : FnOk P w K mg base (L2N.CX P w) (k + 5) f fd ["self", "box"] (spKpS K CK CD XL) := by
  refine okN F scKpS (fun vs H Q E h => ?_) (fun cdv A outer s H vs Q E hr h => ?_)
  · obtain ⟨a, pl, h, s, ps, v, d, rfl, _⟩ := h
    rfl
  · obtain ⟨a, pl, h, s, ps, v, d, rfl, hK, ok, hd, hn, q1, q2, q4⟩ := h
    obtain ⟨dx, hv, t, ha, oa, ba, la, lvs, pvs, g1, g2, g3, g4, g5⟩ := hK.parts
    refine ⟨_, (pss_cons (ps_expr (pe_meth (E := E) (pv 0) CL.c MKpV.M GKpV (hr.mono (by omega)) MKpV.b .nil (L2N.passes_call (L2N.takes_of rfl rfl rfl rfl) fun _ _ _ _ h => h) (pa_cons (pv 1) pa_nil)))
      (pss_cons (ps_asg (pe_fld (pv 0) (by rfl)) (pg_tup rfl (pgs_cons (pg_name (i := 2) scKpS.nd rfl (.inl rfl)) (pgs_cons (pg_name (i := 3) scKpS.nd rfl (.inl rfl)) (pgs_cons (pg_name (i := 4) scKpS.nd rfl (.inl rfl)) (pgs_cons (pg_name (i := 5) scKpS.nd rfl (.inl rfl)) pgs_nil))))))
      (pss_one (ps_expr (pe_meth (E := E) (pv 0) CL.c MKpG.M GKpG (hr.mono (by omega)) MKpG.b .nil (L2N.passes_call (L2N.takes_of rfl rfl rfl rfl) fun _ _ _ _ h => h) (pa_cons (pe_tup (pa_cons (pv 2) (pa_cons (pcall DWo GWoN (hr.mono (by omega)) (pa_cons (pv 3) (pa_cons (pv 1) pa_nil))) (pa_cons (pv 4) (pa_cons (pv 5) pa_nil))))) pa_nil)))))), ?_⟩
    refine ⟨.ref a, rfl, a, dx, _, rfl, g1, rfl, v, rfl, a, pl, h, s, ps, v, d, rfl, hK, hd, q1, q2, fun i hi hz H1 e1 => ?_⟩
    obtain ⟨rfl, hin⟩ := boxN_val hd hi
    have o40 := ok.ol
    refine ⟨.ref a, rfl, a, CK, dx, _, .ref t, rfl, e1 _ _ g1, CL.c, CL.ns, rfl, t, _, rfl, ex_t e1 g4.t, rfl, .ref ha, _, rfl, .ref oa, _, rfl, .ref ba, _, rfl, .ref la, _, rfl, rfl, ?_⟩
    refine ⟨.ref a, rfl, a, dx, _, rfl, e1 _ _ g1, rfl, .ref ha, rfl, .ref oa, rfl, vN i, rfl, oa, s.op, i, rfl, ex_t e1 g4.o, by omega, fun wp H2 nw e2 hwp => ?_⟩
    have E2 := e1.trans e2
    refine ⟨.ref ba, rfl, .ref la, rfl, by show 4 ≤ sizeLine; decide, fun st nst => ?_⟩
    have f3 := Ex.new (o := .tup [.ref ha, .ref wp, .ref ba, .ref la]) nst
    have E3 := E2.trans f3
    exact ⟨a, pl, h, s, shutS s i, ps, .ref st, rfl, hK.ex E3, ⟨st, ha, wp, ba, la, lvs, rfl, st_of upd_same, ex_t E3 g4.h, ex_t f3 (st_of hwp), ex_t E3 g4.b, ex_t E3 g4.l, g4.ls.keep (KeepT.ex E3)⟩, hn, fun H6 e6 hK6 => q4 i hi hz H6 ((ExK.ex E3).trans e6) hK6⟩
/-! ### lay -/
noncomputable def layS (s : KSt) (c : Str) (i : Nat) : KSt := ⟨withoutL s.hand c, s.op, s.br, s.ly.set i (uniL (lyAt s i) [c])⟩
theorem inV_non (hs : List Str) : inV .non (hs.map V.str) = false := by
  induction hs with
  | nil => rfl
  | cons a r ih => exact ih
def spKpY (K : PySem.W.Frag) (CK : Addr) (CD : Nat → Addr) (XL : Addr) : Sp := fun vs H Q E => ∃ (a pl : Addr) (h : House) (s : KSt) (ps : List KSt) (v cv : V) (d : PyData), vs = [.ref a, cv, v] ∧ KpAt K CK H a pl h s ps ∧ OkK h s ∧ Dp K H v d ∧ ps.length ≤ 1000 ∧ (cv = .non ∨ ∃ c, cv = .str c) ∧
  ((∀ c, cv = .str c → c ∉ s.hand) → ∀ H', Ex H H' → E (.ref (CD 7)) none H') ∧
  (∀ c, cv = .str c → c ∈ s.hand → (boxN h.1.length d = none → ∀ H', Ex H H' → E (.ref (CD 6)) none H') ∧ (∀ i, boxN h.1.length d = some i → i ∉ s.op → ∀ H', Ex H H' → E (.ref (CD 11)) none H') ∧
    (∀ i, boxN h.1.length d = some i → i ∈ s.op → Uni (lyAt s i) [c] (uniL (lyAt s i) [c]) → (6 < (uniL (lyAt s i) [c]).length → ∀ H', Ex H H' → E (.ref (CD 12)) none H') ∧ ((uniL (lyAt s i) [c]).length ≤ 6 → ∀ H', ExK a pl H H' → KpAt K CK H' a pl h (layS s c i) (ps ++ [s]) → Q .non H')))
theorem ok_kpY {f fKpH fKpV fKpD fJn fWo fChg fKpG : Addr} {fd fdKpH fdKpV fdKpD fdJn fdWo fdChg fdKpG : FuncData} {k : Nat} (F : Fun K "lay" "Kept.lay" sKpY f fd) (CL : KCls K mg CK) (MKpH : MetD K CK "hand" sKpH ["self"] fKpH fdKpH) (GKpH : FnOk P w K mg base (L2N.CX P w) (k + 1) fKpH fdKpH ["self"] (spKpH K CK CD XL)) (MKpV : MetD K CK "check_open" sKpV ["self", "box"] fKpV fdKpV) (GKpV : FnOk P w K mg base (L2N.CX P w) (k + 4) fKpV fdKpV ["self", "box"] (spKpV K CK CD XL)) (MKpD : MetD K CK "inside" sKpD ["self", "box"] fKpD fdKpD) (GKpD : FnOk P w K mg base (L2N.CX P w) (k + 4) fKpD fdKpD ["self", "box"] (spKpD K CK CD XL)) (DJn : Df K mg "joined" sJn ["row", "more"] fJn fdJn) (GJnS : FnOk P w K mg base CX0 (k + 1) fJn fdJn ["row", "more"] (spJnS K)) (DWo : Df K mg "without" sWo ["row", "gone"] fWo fdWo) (GWoS : FnOk P w K mg base CX0 (k + 1) fWo fdWo ["row", "gone"] (spWo K)) (DChg : Df K mg "changed" sChg ["row", "place", "part"] fChg fdChg) (GChg : FnOk P w K mg base CX0 (k + 1) fChg fdChg ["row", "place", "part"] (spChg K)) (MKpG : MetD K CK "go_on" sKpG ["self", "state"] fKpG fdKpG) (GKpG : FnOk P w K mg base (L2N.CX P w) (k + 1) fKpG fdKpG ["self", "state"] (spKpG K CK CD XL)) (TNoKey : ExcT K mg "NoKey" (CD 7)) (TFull : ExcT K mg "Full" (CD 12)) (B : Bu mg) {t6 : Tok} (m_MOST_KEYS : mg "MOST_KEYS" = some (.int 6 t6)) : FnOk P w K mg base (L2N.CX P w) (k + 5) f fd ["self", "colour", "box"] (spKpY K CK CD XL) := by
  refine okN F scKpY (fun vs H Q E h => ?_) (fun cdv A outer s H vs Q E hr h => ?_)
  · obtain ⟨a, pl, h, s, ps, v, cv, d, rfl, _⟩ := h
    rfl
  · obtain ⟨a, pl, h, s, ps, v, cv, d, rfl, hK, ok, hd, hn, hcv, q0, q⟩ := h
    obtain ⟨dx, hv, t, ha, oa, ba, la, lvs, pvs, g1, g2, g3, g4, g5⟩ := hK.parts
    refine ⟨_, (pss_cons (ps_if (pt_cmpR op_notIn_seq (pv 1) (pe_meth0 (E := E) (pv 0) CL.c MKpH.M GKpH (hr.mono (by omega)) MKpH.b .nil (L2N.passes_call (L2N.takes_of rfl rfl rfl rfl) fun _ _ _ _ h => h)) (by rfl)) (pss_one (L2N.ps_raise rfl (L2N.takes_of rfl rfl rfl rfl) (L2N.pmk_own PySem.F.excBase_ValueError TNoKey.q TNoKey.g TNoKey.k (raises_own TNoKey.b TNoKey.t) (by exact rfl)))) pss_nil)
      (pss_cons (ps_expr (pe_meth (E := E) (pv 0) CL.c MKpV.M GKpV (hr.mono (by omega)) MKpV.b .nil (L2N.passes_call (L2N.takes_of rfl rfl rfl rfl) fun _ _ _ _ h => h) (pa_cons (pv 2) pa_nil)))
      (pss_cons (ps_set (i := 3) scKpY.nd rfl (.inl rfl) (pcall DJn GJnS (hr.mono (by omega)) (pa_cons (pe_meth (E := E) (pv 0) CL.c MKpD.M GKpD (hr.mono (by omega)) MKpD.b .nil (L2N.passes_call (L2N.takes_of rfl rfl rfl rfl) fun _ _ _ _ h => h) (pa_cons (pv 2) pa_nil)) (pa_cons (pe_tup (pa_cons (pv 1) pa_nil)) pa_nil))))
      (pss_cons (ps_if (pt_cmpR op_gt (pe_callB call_len_seq (by rfl) B.len PySem.boot_len (pa_cons (pv 3) pa_nil)) (pe_glob (v := .int 6) (by rfl) m_MOST_KEYS ⟨_, rfl⟩) (nomark _)) (pss_one (L2N.ps_raise rfl (L2N.takes_of rfl rfl rfl rfl) (L2N.pmk_own PySem.F.excBase_ValueError TFull.q TFull.g TFull.k (raises_own TFull.b TFull.t) (by exact rfl)))) pss_nil)
      (pss_cons (ps_asg (pe_fld (pv 0) (by rfl)) (pg_tup rfl (pgs_cons (pg_name (i := 4) scKpY.nd rfl (.inl rfl)) (pgs_cons (pg_name (i := 5) scKpY.nd rfl (.inl rfl)) (pgs_cons (pg_name (i := 6) scKpY.nd rfl (.inl rfl)) (pgs_cons (pg_name (i := 7) scKpY.nd rfl (.inl rfl)) pgs_nil))))))
      (pss_one (ps_expr (pe_meth (E := E) (pv 0) CL.c MKpG.M GKpG (hr.mono (by omega)) MKpG.b .nil (L2N.passes_call (L2N.takes_of rfl rfl rfl rfl) fun _ _ _ _ h => h) (pa_cons (pe_tup (pa_cons (pcall DWo GWoS (hr.mono (by omega)) (pa_cons (pv 4) (pa_cons (pv 1) pa_nil))) (pa_cons (pv 5) (pa_cons (pv 6) (pa_cons (pcall DChg GChg (hr.mono (by omega)) (pa_cons (pv 7) (pa_cons (pv 2) (pa_cons (pv 3) pa_nil)))) pa_nil))))) pa_nil))))))))), ?_⟩
    refine ⟨cv, rfl, .ref a, rfl, a, dx, _, rfl, g1, rfl, a, pl, h, s, ps, rfl, hK, fun hp hhp => ⟨hp, _, rfl, .inr hhp, by rcases hcv with rfl | ⟨c, rfl⟩ <;> rfl, flat_strs _, _, rfl, ?_⟩⟩
    show if (!inV cv (s.hand.map V.str)) = true then _ else _
    have hno : (∀ c, cv = .str c → c ∉ s.hand) → inV cv (s.hand.map V.str) = false := fun hz => by
      rcases hcv with rfl | ⟨c, rfl⟩
      · exact inV_non _
      · rw [inV_str]; exact decide_eq_false (hz c rfl)
    by_cases z : ∀ c, cv = .str c → c ∉ s.hand
    · rw [hno z, if_pos (by decide)]
      exact q0 z H (Ex.refl H)
    obtain ⟨c, rfl, hc⟩ : ∃ c, cv = .str c ∧ c ∈ s.hand := by
      rcases hcv with rfl | ⟨c, rfl⟩
      · exact absurd (fun c e => by cases e) z
      · exact ⟨c, rfl, Classical.byContradiction fun y => z fun c' e => by cases e; exact y⟩
    obtain ⟨q1, q2, q3⟩ := q c rfl hc
    rw [inV_str, decide_eq_true hc, if_neg (by decide)]
    refine ⟨.ref a, rfl, a, dx, _, rfl, g1, rfl, v, rfl, a, pl, h, s, ps, v, d, rfl, hK, hd, q1, q2, fun i hi hz H1 e1 => ?_⟩
    obtain ⟨rfl, hin⟩ := boxN_val hd hi
    have l6 := ok.at6 i
    refine ⟨.ref a, rfl, a, dx, _, rfl, e1 _ _ g1, rfl, vN i, rfl, a, pl, h, s, ps, vN i, .int i, rfl, hK.ex e1, ok.ll, .int _, (fun y => by rw [boxN_nat hin] at y; cases y), fun j hj ip H2 e2 hip => ?_⟩
    rw [boxN_nat hin] at hj
    cases hj
    refine ⟨.str c, rfl, by show 1 ≤ sizeLine; decide, fun r nr => ?_⟩
    have f1 := Ex.new (o := .tup [.str c]) nr
    refine ⟨ip, r, lyAt s i, [c], rfl, ex_t f1 hip, st_of upd_same, by show _ + 1 ≤ 50; omega, fun up H3 e3 hup uu => ?_⟩
    have E3 := ((e1.trans e2).trans f1).trans e3
    obtain ⟨q4, q5⟩ := q3 i hi hz uu
    refine q_when (σ := [some (.ref a), some (.str c), some (vN i), some (.ref up), none, none, none, none]) (b := decide (6 < (uniL (lyAt s i) [c]).length)) (et_is (et_test (ev_op (ev_lenT (K := K) (ev_var (v := .ref up) rfl) hup) ev_c rv_I0)) (by
      rw [List.length_map]
      by_cases y : 6 < (uniL (lyAt s i) [c]).length
      · rw [decide_eq_true y]; exact decide_eq_true (by omega)
      · rw [decide_eq_false y]; exact decide_eq_false (by omega))) (tu := fun _ _ H => E (.ref (CD 12)) none H) (fun hb H4 e4 => q4 (of_decide_eq_true hb) H4 (E3.trans e4)) (fun hb H4 e4 => ?_)
    have E4 := E3.trans e4
    have hle : (uniL (lyAt s i) [c]).length ≤ 6 := by have := of_decide_eq_false hb; omega
    have h40 := ok.hl
    refine ⟨.ref a, rfl, a, CK, dx, _, .ref t, rfl, E4 _ _ g1, CL.c, CL.ns, rfl, t, _, rfl, ex_t E4 g4.t, rfl, .ref ha, _, rfl, .ref oa, _, rfl, .ref ba, _, rfl, .ref la, _, rfl, rfl, ?_⟩
    refine ⟨.ref a, rfl, a, dx, _, rfl, E4 _ _ g1, rfl, .ref ha, rfl, .str c, rfl, ha, s.hand, c, rfl, ex_t E4 g4.h, by omega, fun wp H5 nw e5 hwp => ?_⟩
    have E5 := E4.trans e5
    have hlv : lvs.length = s.ly.length := paired_len g4.ls
    refine ⟨.ref oa, rfl, .ref ba, rfl, .ref la, rfl, vN i, rfl, .ref up, rfl, la, lvs, i, .ref up, rfl, ex_t E5 g4.l, by rw [hlv, ok.ll]; exact hin, by have := ok.oh.2.1; rw [hlv, ok.ll]; omega, fun lp H6 e6 hlp => ?_⟩
    refine ⟨by show 4 ≤ sizeLine; decide, fun st nst => ?_⟩
    have f3 := Ex.new (o := .tup [.ref wp, .ref oa, .ref ba, .ref lp]) nst
    have E7 := (E5.trans e6).trans f3
    exact ⟨a, pl, h, s, layS s c i, ps, .ref st, rfl, hK.ex E7, ⟨st, wp, oa, ba, lp, lvs.set i (.ref up), rfl, st_of upd_same, ex_t (e6.trans f3) (st_of hwp), ex_t E7 g4.o, ex_t E7 g4.b, ex_t f3 hlp, cols_set (g4.ls.keep (KeepT.ex E7)) (ex_t (((e4.trans e5).trans e6).trans f3) hup)⟩, hn, fun H8 e8 hK8 => q5 hle H8 ((ExK.ex E7).trans e8) hK8⟩
/-! ### back -/
def spKpR (K : PySem.W.Frag) (CK : Addr) (CD : Nat → Addr) (XL : Addr) : Sp := fun vs H Q E => ∃ (a pl : Addr) (h : House) (s : KSt) (ps : List KSt), vs = [.ref a] ∧ KpAt K CK H a pl h s ps ∧ (ps = [] → ∀ H', Ex H H' → E (.ref (CD 13)) none H') ∧ (∀ ps' s', ps = ps' ++ [s'] → ∀ H', ExK a pl H H' → KpAt K CK H' a pl h s' ps' → Q .non H')
theorem ok_kpR {f  : Addr} {fd  : FuncData} {k : Nat} (F : Fun K "back" "Kept.back" sKpR f fd) (CL : KCls K mg CK) (TNothingLeft : ExcT K mg "NothingLeft" (CD 13)) (B : Bu mg) : FnOk P w K mg base (L2N.CX P w) (k + 1) f fd ["self"] (spKpR K CK CD XL) := by
  refine okN F scKpR (fun vs H Q E h => ?_) (fun cdv A outer s H vs Q E hr h => ?_)
  · obtain ⟨a, pl, h, s, ps, rfl, _⟩ := h
    rfl
  · obtain ⟨a, pl, h, s, ps, rfl, hK, q1, q2⟩ := h
    have hK' := hK
    obtain ⟨dx, hv, sv, pvs, g1, g2, g3, g4, g5⟩ := hK'
    have hpl : pvs.length = ps.length := paired_len g5
    have hpa : a ≠ pl := fun z => by rw [z, g2] at g1; cases g1
    refine ⟨_, (pss_cons (ps_if (pt_cmpR op_eq (pe_callB call_len_seq (by rfl) B.len PySem.boot_len (pa_cons (pe_fld (pv 0) (by rfl)) pa_nil)) pe_int (nomark _)) (pss_one (L2N.ps_raise rfl (L2N.takes_of rfl rfl rfl rfl) (L2N.pmk_own PySem.F.excBase_ValueError TNothingLeft.q TNothingLeft.g TNothingLeft.k (raises_own TNothingLeft.b TNothingLeft.t) (by exact rfl)))) pss_nil)
      (pss_one (ps_fld (pv 0) (pe_bm0 PySem.F.plainAttrs_list PySem.F.slot_list_pop PySem.F.type_list_pop mt_pop (pe_fld (pv 0) (by rfl))) (by rfl)))), ?_⟩
    refine q_when (σ := [some (.ref a)]) (b := decide (ps = [])) (et_is (et_test (ev_op (ev_len (K := K) (ev_fld rfl g1 CL.c CL.np rfl) (sq_of g2)) ev_c (rv_eq rfl))) (by
      rw [hpl]
      cases ps with
      | nil => rfl
      | cons x r =>
        rw [decide_eq_false (show ¬ x :: r = [] from List.cons_ne_nil x r)]
        exact decide_eq_false fun z => by
          have z := V.int.inj z
          rw [List.length_cons] at z
          omega)) (tu := fun _ _ H => E (.ref (CD 13)) none H) (fun hb H1 e1 => q1 (of_decide_eq_true hb) H1 e1) (fun hb H1 e1 => ?_)
    have hne := of_decide_eq_false hb
    obtain ⟨ps', s', rfl⟩ : ∃ ps' s', ps = ps' ++ [s'] := ⟨ps.dropLast, ps.getLast hne, (List.dropLast_concat_getLast hne).symm⟩
    obtain ⟨x, hx, hsx⟩ := paired_get2 g5 (i := ps'.length) (y := s') (by simp)
    have hl' : pvs.length - 1 = ps'.length := by rw [hpl]; simp
    refine ⟨.ref a, rfl, a, CK, dx, _, .ref pl, rfl, e1 _ _ g1, CL.c, CL.np, rfl, .inl ⟨rfl, _, sq_of (e1 _ _ g2)⟩, pl, pvs, x, rfl, rfl, e1 _ _ g2, by rw [hl']; exact hx, ?_⟩
    have f1 : upd H1 pl (.lst pvs.dropLast) a = some (.ins CK dx [("house", hv), ("state", sv), ("past", .ref pl)]) := by rw [upd_ne hpa]; exact e1 _ _ g1
    refine ⟨.ref a, rfl, a, CK, dx, _, rfl, f1, CL.c, CL.ns, by show 3 < 1000; decide, ?_⟩
    have x1 : ExK a pl H (upd (upd H1 pl (.lst pvs.dropLast)) a (.ins CK dx [("house", hv), ("state", x), ("past", .ref pl)])) := fun b o n1 n2 hb => by rw [upd_ne n1, upd_ne n2]; exact e1 _ _ hb
    have kT := hK.keepT x1
    have g6 : Paired (StAt K H) pvs.dropLast ps' := by
      have := paired_take (ps'.length) g5
      rw [List.take_left] at this
      rw [List.dropLast_eq_take, hl']
      exact this
    exact q2 ps' s' rfl _ x1 ⟨dx, hv, x, pvs.dropLast, upd_same, by rw [upd_ne (Ne.symm hpa)]; exact upd_same, g3.keep kT, hsx.keep kT, paired_imp g6 fun _ _ z => z.keep kT⟩
/-! ### len -/
def spKpL (K : PySem.W.Frag) (CK : Addr) (CD : Nat → Addr) (XL : Addr) : Sp := fun vs H Q E => ∃ (a pl : Addr) (h : House) (s : KSt) (ps : List KSt), vs = [.ref a] ∧ KpAt K CK H a pl h s ps ∧ RetV (vN s.op.length) H Q
theorem ok_kpL {f  : Addr} {fd  : FuncData} {k : Nat} (F : Fun K "__len__" "Kept.__len__" sKpL f fd) (CL : KCls K mg CK) (B : Bu mg) : FnOk P w K mg base (L2N.CX P w) (k + 1) f fd ["self"] (spKpL K CK CD XL) := by
  refine okN F scKpL (fun vs H Q E h => ?_) (fun cdv A outer s H vs Q E hr h => ?_)
  · obtain ⟨a, pl, h, s, ps, rfl, _⟩ := h
    rfl
  · obtain ⟨a, pl, h, s, ps, rfl, hK, q⟩ := h
    obtain ⟨dx, hv, t, ha, oa, ba, la, lvs, pvs, g1, g2, g3, g4, g5⟩ := hK.parts
    refine ⟨_, (pss_one (ps_ret (pe_callB call_len_seq (by rfl) B.len PySem.boot_len (pa_cons (pe_ix ix_tup (pe_fld (pv 0) (by rfl)) pe_int (fun _ _ => rfl)) pa_nil)))), ?_⟩
    exact s_ret (v := vN s.op.length) (ev_is (ev_lenT (K := K) (ev_op (ev_fld rfl g1 CL.c CL.ns rfl) ev_c (rv_ixT (K := K) g4.t at4_1)) g4.o) (by rw [List.length_map])) (fun H1 e1 => q H1 e1)
end
end Kw
set_option Elab.async false
set_option linter.all false
set_option maxRecDepth 100000
set_option maxHeartbeats 4000000
namespace Kw
open PySem PySem.Spec PyProof.Rows L2 Evl KwX NdefX LamX
/-! ### data that are equal -/
def EqE {α : Type} [DecidableEq α] (enc : α → PyData) : Prop := ∀ a b, PyData.eqv (enc a) (enc b) = decide (a = b)
theorem eqA_map {α : Type} [DecidableEq α] {enc : α → PyData} (h : EqE enc) : ∀ xs ys : List α, PyData.eqvAll (xs.map enc) (ys.map enc) = decide (xs = ys)
  | [], [] => by simp [PyData.eqvAll]
  | [], _ :: _ => by simp [PyData.eqvAll]
  | _ :: _, [] => by simp [PyData.eqvAll]
  | a :: r, b :: t => by
    simp only [List.map_cons, PyData.eqvAll]
    rw [h a b, eqA_map h r t]
    by_cases h1 : a = b <;> by_cases h2 : r = t <;> simp [h1, h2]
theorem eqT {a b : List PyData} : PyData.eqv (.tuple a) (.tuple b) = PyData.eqvAll a b := by rw [PyData.eqv]
theorem eqE_str : EqE PyData.str := fun a b => by
  simp [PyData.eqv, str_beq]
theorem eqE_cols : EqE encC := fun a b => by
  unfold encC
  rw [eqT, eqA_map eqE_str]
theorem eqE_nats (a b : List Nat) : PyData.eqv (.tuple (dN a)) (.tuple (dN b)) = decide (a = b) := by rw [eqT, eqv_dN]
theorem eqE_box : EqE encB := fun a b => by
  unfold encB
  rw [eqT]
  simp only [PyData.eqvAll]
  rw [eqE_cols, eqE_cols]
  obtain ⟨a1, a2⟩ := a
  obtain ⟨b1, b2⟩ := b
  by_cases h1 : a1 = b1 <;> by_cases h2 : a2 = b2 <;> simp [h1, h2]
theorem eqE_house : EqE encH := fun a b => by
  unfold encH encBs
  rw [eqT]
  simp only [PyData.eqvAll]
  rw [eqT, eqA_map eqE_box, eqE_cols]
  obtain ⟨a1, a2⟩ := a
  obtain ⟨b1, b2⟩ := b
  by_cases h1 : a1 = b1 <;> by_cases h2 : a2 = b2 <;> simp [h1, h2]
theorem eqE_st : EqE encS := fun a b => by
  unfold encS encL
  rw [eqT]
  simp only [PyData.eqvAll]
  rw [eqT (a := a.ly.map encC), eqA_map eqE_cols, eqE_cols, eqE_nats, eqE_nats]
  obtain ⟨a1, a2, a3, a4⟩ := a
  obtain ⟨b1, b2, b3, b4⟩ := b
  by_cases h1 : a1 = b1 <;> by_cases h2 : a2 = b2 <;> by_cases h3 : a3 = b3 <;> by_cases h4 : a4 = b4 <;> simp [h1, h2, h3, h4]
/-! ### data that may be compared -/
def Shp (n : Nat) (d : PyData) : Prop := PyData.canLay0 d = true ∧ PyData.depth d ≤ n
theorem shp_all : ∀ {n : Nat} {ds : List PyData}, (∀ d ∈ ds, Shp n d) → PyData.canLayAll0 ds = true ∧ PyData.depthAll ds ≤ n + 1
  | n, [], _ => by simp [PyData.canLayAll0, PyData.depthAll]
  | n, d :: r, h => by
    have h1 := h d (List.mem_cons_self ..)
    have h2 := shp_all fun d hd => h d (List.mem_cons_of_mem _ hd)
    have h3 := h1.2
    simp only [PyData.canLayAll0, PyData.depthAll, h1.1, h2.1, Bool.and_true, true_and]
    omega
theorem shp_tup {n : Nat} {ds : List PyData} (h : ∀ d ∈ ds, Shp n d) : Shp (n + 2) (.tuple ds) := by
  have := shp_all h
  refine ⟨by simp only [PyData.canLay0]; exact this.1, ?_⟩
  simp only [PyData.depth]
  omega
theorem Shp.mono {m n : Nat} {d : PyData} (h : Shp m d) (hmn : m ≤ n) : Shp n d := ⟨h.1, Nat.le_trans h.2 hmn⟩
theorem Shp.ok {n : Nat} {d : PyData} (h : Shp n d) (hn : n ≤ 64) : SeqAt.shaped d = true := by
  unfold SeqAt.shaped
  rw [h.1, Bool.true_and]
  have := h.2
  exact decide_eq_true (by omega)
def ColsOk (cs : List Str) : Prop := ∀ c ∈ cs, colB c = true
theorem shp_cols {cs : List Str} (h : ColsOk cs) : Shp 4 (encC cs) := shp_tup (n := 2) fun d hd => by
  obtain ⟨c, hc, rfl⟩ := List.mem_map.mp hd
  refine ⟨by simp only [PyData.canLay0]; exact strOk_low (colB_low (h c hc)).1, by simp only [PyData.depth]; omega⟩
theorem shp_nats {ns : List Nat} : Shp 4 (.tuple (dN ns)) := shp_tup (n := 2) fun d hd => by
  obtain ⟨i, _, rfl⟩ := List.mem_map.mp hd
  exact ⟨by simp only [PyData.canLay0], by simp only [PyData.depth]; omega⟩
theorem okCols_ok {cs : List Str} {m : Nat} (h : OkCols cs m) : ColsOk cs := h.2.1
theorem shp_box {b : Box} (h : OkBox b) : Shp 6 (encB b) := shp_tup (n := 4) fun d hd => by
  simp only [List.mem_cons, List.not_mem_nil, or_false] at hd
  rcases hd with rfl | rfl
  · exact shp_cols (okCols_ok h.1)
  · exact shp_cols (okCols_ok h.2)
theorem shp_house {h : House} (o : OkHouse h) : Shp 10 (encH h) := shp_tup (n := 8) fun d hd => by
  simp only [List.mem_cons, List.not_mem_nil, or_false] at hd
  rcases hd with rfl | rfl
  · exact shp_tup (n := 6) fun d hd => by
      obtain ⟨b, hb, rfl⟩ := List.mem_map.mp hd
      exact shp_box (o.2.2.1 b hb)
  · exact (shp_cols (okCols_ok o.2.2.2)).mono (by decide)
/-- all its texts are colours -/
structure OkC (s : KSt) : Prop where
  h : ColsOk s.hand
  l : ∀ ks ∈ s.ly, ColsOk ks
theorem shp_st {s : KSt} (o : OkC s) : Shp 8 (encS s) := shp_tup (n := 6) fun d hd => by
  simp only [List.mem_cons, List.not_mem_nil, or_false] at hd
  rcases hd with rfl | rfl | rfl | rfl
  · exact (shp_cols o.h).mono (by decide)
  · exact shp_nats.mono (by decide)
  · exact shp_nats.mono (by decide)
  · exact shp_tup (n := 4) fun d hd => by
      obtain ⟨b, hb, rfl⟩ := List.mem_map.mp hd
      exact shp_cols (o.l b hb)
/-! ### can_all -/
def boxesK (h : House) (s : KSt) : List Box := (List.range h.1.length).map fun i => (locksOf h s i, lyAt s i)
def canB (h : House) (s : KSt) : Bool := decide (shutOf (boxesK h s) s.hand s.op = [])
theorem few_K {h : House} {s : KSt} (o : OkK h s) : Few (boxesK h s) := by
  refine ⟨by unfold boxesK; rw [List.length_map, List.length_range]; exact o.oh.2.1, fun b hb => ?_⟩
  obtain ⟨i, hi, rfl⟩ := List.mem_map.mp hb
  refine ⟨?_, o.at6 i⟩
  show (locksOf h s i).length ≤ 3
  unfold locksOf
  split
  · exact Nat.zero_le _
  · exact (o.oh.few.bx i).1
theorem len_K (h : House) (s : KSt) : (boxesK h s).length = h.1.length := by unfold boxesK; rw [List.length_map, List.length_range]
section
variable {P : Program} {w : World} {K : PySem.W.Frag} {mg : Str → Option Value} {base : Heap} {CK XL : Addr} {CD : Nat → Addr}
def spKpA (K : PySem.W.Frag) (CK : Addr) (CD : Nat → Addr) (XL : Addr) : Sp := fun vs H Q E => ∃ (a pl : Addr) (h : House) (s : KSt) (ps : List KSt), vs = [.ref a] ∧ KpAt K CK H a pl h s ps ∧ OkK h s ∧ RetV (.bl (canB h s)) H Q
theorem ok_kpA {f fKpK fKpD fKpH fKpP fShB : Addr} {fd fdKpK fdKpD fdKpH fdKpP fdShB : FuncData} {k : Nat} (F : Fun K "can_all" "Kept.can_all" sKpA f fd) (CL : KCls K mg CK) (MKpK : MetD K CK "locks_of" sKpK ["self", "box"] fKpK fdKpK) (GKpK : FnOk P w K mg base (L2N.CX P w) (k + 2) fKpK fdKpK ["self", "box"] (spKpK K CK CD XL)) (MKpD : MetD K CK "inside" sKpD ["self", "box"] fKpD fdKpD) (GKpD : FnOk P w K mg base (L2N.CX P w) (k + 4) fKpD fdKpD ["self", "box"] (spKpD K CK CD XL)) (MKpH : MetD K CK "hand" sKpH ["self"] fKpH fdKpH) (GKpH : FnOk P w K mg base (L2N.CX P w) (k + 1) fKpH fdKpH ["self"] (spKpH K CK CD XL)) (MKpP : MetD K CK "opened" sKpP ["self"] fKpP fdKpP) (GKpP : FnOk P w K mg base (L2N.CX P w) (k + 1) fKpP fdKpP ["self"] (spKpP K CK CD XL)) (DShB : Df K mg "shut_boxes" sShB ["boxes", "hand", "broken"] fShB fdShB) (GShB : FnOk P w K mg base CX0 (k + 3) fShB fdShB ["boxes", "hand", "broken"] (spShB K)) (B : Bu mg) : FnOk P w K mg base (L2N.CX P w) (k + 5) f fd ["self"] (spKpA K CK CD XL) := by
  refine okN F scKpA (fun vs H Q E h => ?_) (fun cdv A outer s H vs Q E hr h => ?_)
  · obtain ⟨a, pl, h, s, ps, rfl, _⟩ := h
    rfl
  · obtain ⟨a, pl, h, s, ps, rfl, hK, ok, q⟩ := h
    obtain ⟨dx, hv, t, ha, oa, ba, la, lvs, pvs, g1, g2, g3, g4, g5⟩ := hK.parts
    obtain ⟨hva, hb, hk, rfl, e1, e2, e3⟩ := g3
    have h30 := ok.oh.2.1
    have h40 := ok.hl
    have o40 := ok.ol
    refine ⟨_, (pss_cons (ps_setLc (i := 1) (own := [("box", 2)]) (g := (gName 2)) (tt := tYes) (te := (tTup (tCons (tMeth CK "locks_of" (spKpK K CK CD XL) [] E0 (tVar 0) (tCons (tVar 2) tNil)) (tCons (tMeth CK "inside" (spKpD K CK CD XL) [] E0 (tVar 0) (tCons (tVar 2) tNil)) tNil)))) rfl scKpA.nd rfl rfl (sw_true rfl rfl rfl (by decide +kernel)) (pi_range1 (by rfl) B.rng (pa_cons (pe_callB call_len_seq (by rfl) B.len PySem.boot_len (pa_cons (pe_ix ix_tup (pe_fld (pv 0) (by rfl)) pe_int (fun _ _ => rfl)) pa_nil)) pa_nil)) (blkOk_by (N := ["self", "boxes", "box"]) (sc := defScope sKpA) (by decide +kernel)) (fun _ _ _ _ _ => (pg_name (i := 2) scKpA.nd rfl (.inl rfl))) (fun _ _ _ _ _ => pts_nil) (fun _ _ _ _ _ => (pe_tup (pa_cons (pe_meth (E := E0) (pv 0) CL.c MKpK.M GKpK (hr.mono (by omega)) MKpK.b .nil passN (pa_cons (pv 2) pa_nil)) (pa_cons (pe_meth (E := E0) (pv 0) CL.c MKpD.M GKpD (hr.mono (by omega)) MKpD.b .nil passN (pa_cons (pv 2) pa_nil)) pa_nil)))))
      (pss_one (ps_ret (pe_cmpR op_eq (pe_callB call_len_seq (by rfl) B.len PySem.boot_len (pa_cons (pcall DShB GShB (hr.mono (by omega)) (pa_cons (pv 1) (pa_cons (pe_meth0 (E := E0) (pv 0) CL.c MKpH.M GKpH (hr.mono (by omega)) MKpH.b .nil passN) (pa_cons (pe_meth0 (E := E0) (pv 0) CL.c MKpP.M GKpP (hr.mono (by omega)) MKpP.b .nil passN) pa_nil)))) pa_nil)) pe_int (nomark _))))), ?_⟩
    have hlen : Ev (tCB (rLenS K) (tCons (tOp (rIxT K) (L2.tFld K (tVar 0) "house") (tC (.int 0))) tNil)) [some (.ref a), none, none] H (.int (h.1.length : Int)) := ev_lenB (K := K) (ev_op (ev_fld rfl g1 CL.c CL.nh rfl) ev_c (rv_ixT (K := K) e1 at0)) (BoxesS.of e2)
    refine q_asgC (σ := [some (.ref a), none, none]) (lc_gen (ew_rng1 (ea_cons hlen ea_nil) (by omega)) (by omega) (fun _ => true) (fun i y G => BoxAt K G y (locksOf h s i, lyAt s i)) (fun i y G G' e z => z.keep e) (fun i x H1 H2 Q' e hi hy k => ?_)) fun bp ys H1 nb f1 hbp hys => ?_
    · obtain ⟨rfl, rfl⟩ := hy
      refine k _ _ (Ex.refl _) rfl et_yes fun _ => fun G1 f1 Q1 q1 => ?_
      have F1 := e.trans f1
      refine ⟨.ref a, rfl, a, dx, _, rfl, F1 _ _ g1, rfl, vN i, rfl, a, pl, h, s, ps, i, rfl, hK.ex F1, hi, fun lp G2 f2 hlp => ?_⟩
      have F2 := F1.trans f2
      refine ⟨.ref a, rfl, a, dx, _, rfl, F2 _ _ g1, rfl, vN i, rfl, a, pl, h, s, ps, vN i, .int i, rfl, hK.ex F2, ok.ll, .int _, (fun z => by rw [boxN_nat hi] at z; cases z), fun j hj ip G3 f3 hip => ?_⟩
      rw [boxN_nat hi] at hj
      cases hj
      refine ⟨by show 2 ≤ sizeLine; decide, fun tp ntp => ?_⟩
      have f4 := Ex.new (o := .tup [.ref lp, .ref ip]) ntp
      exact q1 _ _ ((f2.trans f3).trans f4) ⟨tp, lp, ip, rfl, st_of upd_same, ex_t (f3.trans f4) hlp, ex_t f4 hip⟩
    have hB : BoxesS K H1 bp (boxesK h s) := ⟨ys, .inl (sq_of hbp), by
      rw [filter_true] at hys
      exact paired_flip hys⟩
    have hK1 := hK.ex f1
    refine s_ret (v := .bl (canB h s)) (ev_is (ev_op (ta := tCB (rLenS K) (tCons (tCall (spShB K) [] E0 (tCons (tVar 1) (tCons (tMeth CK "hand" (spKpH K CK CD XL) [] E0 (tVar 0) tNil) (tCons (tMeth CK "opened" (spKpP K CK CD XL) [] E0 (tVar 0) tNil) tNil)))) tNil)) (x := .int ((shutOf (boxesK h s) s.hand s.op).length : Int)) (fun G1 f2 Q1 q1 => ?_) ev_c (rv_eq rfl)) ?_) (fun G e => q G (f1.trans e))
    · have F1 := f1.trans f2
      refine ⟨.ref bp, rfl, .ref a, rfl, a, dx, _, rfl, F1 _ _ g1, rfl, a, pl, h, s, ps, rfl, hK.ex F1, fun hp hhp => ⟨.ref a, rfl, a, dx, _, rfl, F1 _ _ g1, rfl, a, pl, h, s, ps, rfl, hK.ex F1, fun op hop => ?_⟩⟩
      refine ⟨bp, hp, op, boxesK h s, s.hand, s.op, rfl, hB.ex f2, few_K ok, hhp, by omega, hop, (fun i hi => by rw [len_K]; exact ok.ob i hi), by omega, fun p G2 np f3 hp2 => ⟨p, _, rfl, .inr (st_of hp2), ?_⟩⟩
      rw [List.length_map]
      exact q1 G2 f3
    · congr 1
      unfold canB
      cases e : shutOf (boxesK h s) s.hand s.op with
      | nil => rfl
      | cons x r =>
        rw [decide_eq_false (List.cons_ne_nil x r)]
        exact decide_eq_false fun z => by
          have z := V.int.inj z
          rw [List.length_cons] at z
          omega
/-! ### == -/
def spKpE (K : PySem.W.Frag) (CK : Addr) (CD : Nat → Addr) (XL : Addr) : Sp := fun vs H Q E => ∃ (a pl : Addr) (h : House) (s : KSt) (ps : List KSt) (v : V), vs = [.ref a, v] ∧ KpAt K CK H a pl h s ps ∧ OkHouse h ∧ OkC s ∧
  ((∃ b pb h' s' qs, v = .ref b ∧ KpAt K CK H b pb h' s' qs ∧ OkHouse h' ∧ OkC s' ∧ RetV (.bl (decide (h = h') && decide (s = s'))) H Q) ∨ (∃ b xs, v = .ref b ∧ SqT K H b xs ∧ RetV (.bl false) H Q))
theorem ok_kpE {f  : Addr} {fd  : FuncData} {k : Nat} (F : Fun K "__eq__" "Kept.__eq__" sKpE f fd) (CL : KCls K mg CK) (B : Bu mg) : FnOk P w K mg base (L2N.CX P w) (k + 1) f fd ["self", "other"] (spKpE K CK CD XL) := by
  refine okN F scKpE (fun vs H Q E h => ?_) (fun cdv A outer s H vs Q E hr h => ?_)
  · obtain ⟨a, pl, h, s, ps, v, rfl, _⟩ := h
    rfl
  · obtain ⟨a, pl, h, s, ps, v, rfl, hK, oh, oc, hz⟩ := h
    have hu64 := hr.units
    have hK' := hK
    obtain ⟨dx, hv, sv, pvs, g1, g2, g3, g4, g5⟩ := hK'
    refine ⟨_, (pss_one (ps_ret (pe_and (pe_callB call_isi (by rfl) B.isi boot_isinstance (pa_cons (pv 1) (pa_cons (pe_glob (v := .ref CK) (by rfl) CL.g rfl) pa_nil))) (pe_and (pe_cmpR (op_eqD hu64) (pe_fld (pv 0) (by rfl)) (pe_fld (pv 1) (by rfl)) (nomark _)) (pe_one (pe_cmpR (op_eqD hu64) (pe_fld (pv 0) (by rfl)) (pe_fld (pv 1) (by rfl)) (nomark _))))))), ?_⟩
    rcases hz with ⟨b, pb, h', s', qs, rfl, hKb, oh', oc', q⟩ | ⟨b, xs, rfl, hb, q⟩
    · obtain ⟨dy, hw, sw, pws, k1, k2, k3, k4, k5⟩ := hKb
      refine s_ret (v := .bl (decide (h = h') && decide (s = s'))) (ev_is (ev_andV (a := true) (b := decide (h = h') && decide (s = s')) (fun G1 f1 Q1 q1 => ⟨.ref b, rfl, .ref b, .ref CK, _, _, true, rfl, .own _, .base (.ins (f1 _ _ k1) CL.c CL.ca CL.cn CL.ct CL.cm), CL.kk, q1 G1 (Ex.refl G1)⟩) fun _ => ev_is (ev_andV (a := decide (h = h')) (b := decide (s = s')) (ev_is (ev_op (ev_fld rfl g1 CL.c CL.nh rfl) (ev_fld rfl k1 CL.c CL.nh rfl) (rv_eqDp (K := K) (dp_house g3) (dp_house k3) ((shp_house oh).ok (by decide)) ((shp_house oh').ok (by decide)))) (by rw [eqE_house])) fun _ => ev_is (ev_op (ev_fld rfl g1 CL.c CL.ns rfl) (ev_fld rfl k1 CL.c CL.ns rfl) (rv_eqDp (K := K) g4.dp k4.dp ((shp_st oc).ok (by decide)) ((shp_st oc').ok (by decide)))) (by rw [eqE_st])) rfl) rfl) (fun G e => q G e)
    · exact s_ret (v := .bl false) (ev_is (ev_andV (a := false) (b := false) (fun G1 f1 Q1 q1 => ⟨.ref b, rfl, .ref b, .ref CK, _, _, false, rfl, .own _, ty_tup (ex_t f1 hb), CL.kt, q1 G1 (Ex.refl G1)⟩) fun z => by cases z) rfl) (fun G e => q G e)
/-! ### a new one -/
def st0 (h : House) : KSt := ⟨h.2, [], [], h.1.map (·.2)⟩
def spChkE (K : PySem.W.Frag) (CD : Nat → Addr) : Sp := fun vs H Q E => ∃ (v : V) (d : PyData), vs = [v] ∧ Dp K H v d ∧ StB d = true ∧ (houseD d = false → ∀ H', Ex H H' → E (.ref (CD 0)) none H') ∧ (houseD d = true → RetV .non H Q)
theorem ok_chkE {f fIsH : Addr} {fd fdIsH : FuncData} {k : Nat} (F : Fun K "check_house" "check_house" sChk f fd) (DIsH : Df K mg "is_house" sIsH ["thing"] fIsH fdIsH) (GIsH : FnOk P w K mg base CX0 (k + 3) fIsH fdIsH ["thing"] (spIsH K)) (TNoHouse : ExcT K mg "NoHouse" (CD 0)) : FnOk P w K mg base (L2N.CX P w) (k + 4) f fd ["house"] (spChkE K CD) := by
  refine okN F scChk (fun vs H Q E h => ?_) (fun cdv A outer s H vs Q E hr h => ?_)
  · obtain ⟨v, d, rfl, _⟩ := h
    rfl
  · obtain ⟨v, d, rfl, hd, hs, q1, q2⟩ := h
    refine ⟨_, (pss_one (ps_if (pt_not (pt_val (pcall DIsH GIsH (hr.mono (by omega)) (pa_cons (pv 0) pa_nil)))) (pss_one (L2N.ps_raise rfl (L2N.takes_of rfl rfl rfl rfl) (L2N.pmk_own PySem.F.excBase_ValueError TNoHouse.q TNoHouse.g TNoHouse.k (raises_own TNoHouse.b TNoHouse.t) (by exact rfl)))) pss_nil)), ?_⟩
    exact s_when (b := !houseD d) (et_not (et_B (ev_call (z := .bl (houseD d)) (ea_cons (ev_var (v := v) rfl) ea_nil) (SpV.of fun H2 e2 Q q E => ⟨v, d, rfl, dp_ex e2 _ _ hd, hs, q⟩)))) (tu := fun _ _ H => E (.ref (CD 0)) none H) (fun hz H2 e2 => q1 (by cases e : houseD d <;> first | rfl | (rw [e] at hz; cases hz)) H2 e2) (fun hz H2 e2 => q2 (by cases e : houseD d <;> first | rfl | (rw [e] at hz; cases hz)) H2 e2)
def spKpI (K : PySem.W.Frag) (CK : Addr) (CD : Nat → Addr) (XL : Addr) : Sp := fun vs H Q E => ∃ (a dx : Addr) (v : V) (d : PyData), vs = [.ref a, v] ∧ H a = some (.ins CK dx []) ∧ Dp K H v d ∧ StB d = true ∧ (houseD d = false → ∀ H', Ex H H' → E (.ref (CD 0)) none H') ∧
  (houseD d = true → ∃ h, HouseAt K H v h ∧ OkHouse h ∧ ∀ pl H', (∀ b o, b ≠ a → H b = some o → H' b = some o) → H pl = none → KpAt K CK H' a pl h (st0 h) [] → Q .non H')
theorem c1_src {te : TE} {σ : L2.St} {H : Hp} {Q' : List V → Hp → Prop} (h : te σ H fun x H1 => rTupOf K [x] H1 fun v H2 => Q' [v] H2) : tCons (tCB (rTupOf K) (tCons te tNil)) tNil σ H Q' := h
theorem past_core {D : Ends} {Q : VK} {H H5 : Hp} {a av st ha oa ba la dx : Addr} {lvs : List V} {h : House} {y2 y3 y4 y5 : Option V} (CL : KCls K mg CK) (g5 : H5 a = some (.ins CK dx [("house", .ref av)])) (hst : StA K H5 st ha oa ba la lvs (st0 h)) (hA5 : HouseAt K H5 (.ref av) h) (x5 : ∀ b o, b ≠ a → H b = some o → H5 b = some o) (f5 : ∀ b, H5 b = none → H b = none)
    (q : ∀ pl H', (∀ b o, b ≠ a → H b = some o → H' b = some o) → H pl = none → KpAt K CK H' a pl h (st0 h) [] → Q .non H') :
    sFld K (tVar 0) (tLst tNil) "past" { D with nx := fun _ H' => Q .non H' } [some (.ref a), some (.ref av), y2, y3, y4, y5] (upd H5 a (.ins CK dx [("house", .ref av), ("state", .ref st)])) := by
  refine ⟨Nat.zero_le _, fun pl npl => ?_⟩
  have npa : pl ≠ a := fun z => by rw [z, upd_same] at npl; cases npl
  have npl5 : H5 pl = none := by rw [upd_ne npa] at npl; exact npl
  refine ⟨.ref a, rfl, a, CK, dx, [("house", .ref av), ("state", .ref st)], rfl, by rw [upd_ne (Ne.symm npa)]; exact upd_same, CL.c, CL.np, by show 2 < 1000; decide, ?_⟩
  have kT : KeepT H5 (upd (upd (upd H5 a (.ins CK dx [("house", .ref av), ("state", .ref st)])) pl (.lst [])) a (.ins CK dx [("house", .ref av), ("state", .ref st), ("past", .ref pl)])) := fun b xs r => by
    have n1 : b ≠ a := by
      rintro rfl
      rcases r with r | ⟨o, r⟩ <;> (rw [g5] at r; cases r)
    have n2 : b ≠ pl := by
      rintro rfl
      rcases r with r | ⟨o, r⟩ <;> (rw [npl5] at r; cases r)
    rcases r with r | ⟨o, r⟩
    · exact .inl (by rw [upd_ne n1, upd_ne n2, upd_ne n1]; exact r)
    · exact .inr ⟨o, by rw [upd_ne n1, upd_ne n2, upd_ne n1]; exact r⟩
  refine q pl _ (fun b o n hb => ?_) (f5 pl npl5) ⟨dx, .ref av, .ref st, [], upd_same, by rw [upd_ne npa]; exact upd_same, hA5.keep kT, ⟨st, ha, oa, ba, la, lvs, rfl, hst.keep kT⟩, .nil⟩
  have n2 : b ≠ pl := fun z => by
    have := x5 b o n hb
    rw [z, npl5] at this
    cases this
  rw [upd_ne n, upd_ne n2, upd_ne n]
  exact x5 b o n hb
theorem init_core {D : Ends} {Q : VK} {H H2 : Hp} {a av ab ak dx : Addr} {h : House} (CL : KCls K mg CK) (ho : OkHouse h) (g2 : H2 a = some (.ins CK dx [("house", .ref av)])) (x2 : ∀ b o, b ≠ a → H b = some o → H2 b = some o) (f2 : ∀ b, H2 b = none → H b = none) (hA2 : HouseAt K H2 (.ref av) h) (hab2 : BoxesT K H2 ab h.1) (hak2 : SqT K H2 ak (h.2.map V.str))
    (q : ∀ pl H', (∀ b o, b ≠ a → H b = some o → H' b = some o) → H pl = none → KpAt K CK H' a pl h (st0 h) [] → Q .non H') :
    tSeq (sFld K (tVar 0) (tTup (tCons (tVar 3) (tCons (tTup tNil) (tCons (tTup tNil) (tCons (tCB (rTupOf K) (tCons (tLc (iTup K (tVar 2)) (gTup K 2 (gCons (gName 4) (gCons (gName 5) gNil))) tYes (tVar 5) [4, 5]) tNil)) tNil))))) "state") (sFld K (tVar 0) (tLst tNil) "past") { D with nx := fun _ H' => Q .non H' } [some (.ref a), some (.ref av), some (.ref ab), some (.ref ak), none, none] H2 := by
  have h30 := ho.2.1
  refine ⟨.ref ak, rfl, Nat.zero_le _, fun c1 nc1 => ⟨Nat.zero_le _, fun c2 nc2 => ?_⟩⟩
  have k1 := Ex.new (o := .tup []) nc1
  have k2 := Ex.new (o := .tup []) nc2
  have k12 := k1.trans k2
  obtain ⟨bvs, hbvs, hbp⟩ := hab2
  have hbl : bvs.length = h.1.length := paired_len hbp
  have hC : EvC (tLc (iTup K (tVar 2)) (gTup K 2 (gCons (gName 4) (gCons (gName 5) gNil))) tYes (tVar 5) [4, 5]) [some (.ref a), some (.ref av), some (.ref ab), some (.ref ak), none, none] (upd (upd H2 c1 (.tup [])) c2 (.tup [])) bvs.length (fun _ => true) (fun i y G => ∃ p, y = .ref p ∧ SqT K G p ((bx h.1 i).2.map V.str)) := by
    refine lc_gen (ew_tup (K := K) (ev_var (v := .ref ab) rfl) (ex_t k12 hbvs)) (by omega) (fun _ => true) _ (fun i y G G' e ⟨p, z1, z2⟩ => ⟨p, z1, keep_t e z2⟩) (fun i x G1 G2 Q' e hi hy k => ?_)
    obtain ⟨rfl, hx⟩ := hy
    obtain ⟨bb, hbb, ⟨p, l, kk, rfl, z1, z2, z3⟩⟩ := paired_get hbp hx
    have : bb = bx h.1 i := by
      have := bx_get (bs := h.1) (i := i) (by omega)
      rw [hbb] at this
      exact Option.some.inj this
    subst this
    have F := k12.trans e
    refine ⟨p, _, rfl, ex_t F z1, rfl, .ref l, [.ref kk], rfl, .ref kk, [], rfl, rfl, k _ _ (Ex.refl _) rfl et_yes fun _ => ep_var rfl fun G3 e3 => ⟨kk, rfl, ex_t (F.trans e3) z3⟩⟩
  refine c1_src (hC _ (Ex.refl _) _ fun lp ys H3 nlp e3 hlp hys => ?_)
  refine ⟨lp, ys, rfl, .inl ⟨sq_of hlp, fun tp ntp => ⟨by show 4 ≤ sizeLine; decide, fun st nst => ?_⟩⟩⟩
  have k4 := Ex.new (o := .tup ys) ntp
  have k5 := Ex.new (o := .tup [.ref ak, .ref c1, .ref c2, .ref tp]) nst
  have E5 := ((k12.trans e3).trans k4).trans k5
  refine ⟨.ref a, rfl, a, CK, dx, _, rfl, E5 _ _ g2, CL.c, CL.ns, by show 1 < 1000; decide, ?_⟩
  have hst : StA K (upd (upd H3 tp (.tup ys)) st (.tup [.ref ak, .ref c1, .ref c2, .ref tp])) st ak c1 c2 tp ys (st0 h) := ⟨st_of upd_same, ex_t E5 hak2, st_of ((((k2.trans e3).trans k4).trans k5) _ _ upd_same), st_of (((e3.trans k4).trans k5) _ _ upd_same), st_of (k5 _ _ upd_same), by
    rw [filter_true, hbl] at hys
    have := paired_flip (F := fun v ks => ∃ p, v = V.ref p ∧ SqT K H3 p (ks.map V.str)) (g := fun i => (bx h.1 i).2) hys
    have e : (List.range h.1.length).map (fun i => (bx h.1 i).2) = h.1.map (·.2) := range_map_get h.1 ([], []) (·.2)
    rw [e] at this
    exact (show ColsAt K H3 ys (h.1.map (·.2)) from this).keep (KeepT.ex (k4.trans k5))⟩
  have g5 := E5 _ _ g2
  have hA5 := hA2.keep (KeepT.ex E5)
  have x5 : ∀ b o, b ≠ a → H b = some o → upd (upd H3 tp (.tup ys)) st (.tup [.ref ak, .ref c1, .ref c2, .ref tp]) b = some o := fun b o n hb => E5 _ _ (x2 b o n hb)
  have f5 : ∀ b, upd (upd H3 tp (.tup ys)) st (.tup [.ref ak, .ref c1, .ref c2, .ref tp]) b = none → H b = none := fun b hb => f2 b (fresh_back E5 hb)
  exact past_core (K := K) CL g5 hst hA5 x5 f5 q
theorem ok_kpI {f fChk : Addr} {fd fdChk : FuncData} {k : Nat} (F : Fun K "__init__" "Kept.__init__" sKpI f fd) (CL : KCls K mg CK) (DChk : Df K mg "check_house" sChk ["house"] fChk fdChk) (GChkE : FnOk P w K mg base (L2N.CX P w) (k + 4) fChk fdChk ["house"] (spChkE K CD)) (B : Bu mg) : FnOk P w K mg base (L2N.CX P w) (k + 5) f fd ["self", "house"] (spKpI K CK CD XL) := by
  refine okN F scKpI (fun vs H Q E h => ?_) (fun cdv A outer s H vs Q E hr h => ?_)
  · obtain ⟨a, dx, v, d, rfl, _⟩ := h
    rfl
  · obtain ⟨a, dx, v, d, rfl, g0, hd, hs, q1, q2⟩ := h
    refine ⟨_, (pss_cons (ps_expr (pe_call (E := E) GChkE (hr.mono (by omega)) (by rfl) DChk.g DChk.F.kp DChk.b .nil (L2N.passes_call (L2N.takes_of rfl rfl rfl rfl) fun _ _ _ _ h => h) (pa_cons (pv 1) pa_nil)))
      (pss_cons (ps_asg (pv 1) (pg_tup rfl (pgs_cons (pg_name (i := 2) scKpI.nd rfl (.inl rfl)) (pgs_cons (pg_name (i := 3) scKpI.nd rfl (.inl rfl)) pgs_nil))))
      (pss_cons (ps_fld (pv 0) (pv 1) (by rfl))
      (pss_cons (ps_fld (pv 0) (pe_tup (pa_cons (pv 3) (pa_cons (pe_tup pa_nil) (pa_cons (pe_tup pa_nil) (pa_cons (pe_callTy call_tupOf (by rfl) B.tup boot_tuple (pa_cons (pe_lc (own := [("locks", 4), ("keys", 5)]) (g := (gTup K 2 (gCons (gName 4) (gCons (gName 5) gNil)))) (tt := tYes) (te := (tVar 5)) rfl scKpI.nd (pi_tup (pv 2)) (blkOk_by (N := ["self", "house", "boxes", "hand", "locks", "keys"]) (sc := defScope sKpI) (by decide +kernel)) (fun _ _ _ _ _ => (pg_tup rfl (pgs_cons (pg_name (i := 4) scKpI.nd rfl (.inl rfl)) (pgs_cons (pg_name (i := 5) scKpI.nd rfl (.inl rfl)) pgs_nil)))) (fun _ _ _ _ _ => pts_nil) (fun _ _ _ _ _ => (pv 5))) pa_nil)) pa_nil))))) (by rfl))
      (pss_one (ps_fld (pv 0) (pe_lst pa_nil) (by rfl))))))), ?_⟩
    refine ⟨v, rfl, v, d, rfl, hd, hs, q1, fun hz H1 e1 => ?_⟩
    obtain ⟨h, hA, ho, q⟩ := q2 hz
    have hA' := hA
    obtain ⟨av, ab, ak, rfl, hav, hab, hak⟩ := hA'
    have h30 := ho.2.1
    refine ⟨.ref av, rfl, av, _, rfl, ex_t e1 hav, rfl, .ref ab, [.ref ak], rfl, .ref ak, [], rfl, rfl, ?_⟩
    refine ⟨.ref av, rfl, .ref a, rfl, a, CK, dx, [], rfl, e1 _ _ g0, CL.c, CL.nh, by show 0 < 1000; decide, ?_⟩
    have n1 : H1 a = some (.ins CK dx []) := e1 _ _ g0
    have kT1 : KeepT H1 (upd H1 a (.ins CK dx [("house", .ref av)])) := fun b xs r => by
      have nb : b ≠ a := by
        rintro rfl
        rcases r with r | ⟨o, r⟩ <;> (rw [n1] at r; cases r)
      rcases r with r | ⟨o, r⟩
      · exact .inl (by rw [upd_ne nb]; exact r)
      · exact .inr ⟨o, by rw [upd_ne nb]; exact r⟩
    refine init_core (K := K) (D := { nx := fun _ H' => Q .non H', rt := Q }) CL (H := H) ho upd_same (fun b o n hb => by rw [upd_ne n]; exact e1 _ _ hb) (fun b hb => ?_) ((hA.keep (KeepT.ex e1)).keep kT1) ((hab.keep (KeepT.ex e1)).keep kT1) (keep_t kT1 (ex_t e1 hak)) q
    have nb : b ≠ a := fun z => by rw [z, upd_same] at hb; cases hb
    rw [upd_ne nb] at hb
    exact fresh_back e1 hb
end
end Kw
set_option Elab.async false
set_option linter.all false
set_option maxRecDepth 100000
set_option maxHeartbeats 4000000
namespace KwX
open PySem PySem.Spec PyProof.Rows L2
theorem tmul_one (l : Addr) (its : Array Value) (n : Nat) (dd : Option Addr) (sl : Array (Option Value)) (u : Tok) (ne : its.isEmpty = false) :
    Meets (Builtin.«tuple.__mul__» ⟨[.ref l, .int 1 u], []⟩) (fun _ R s => s.heap.get? l = some { cls := .type "tuple", dict := dd, data := .seq its n, slots := sl } ∧ R (.ok (.ret (Value.ref l))) s) :=
  .of_wp fun prog w A R s0 want => by
    obtain ⟨hp, g, d, tk, os⟩ := s0
    obtain ⟨hl, want⟩ := want
    have f1 := AutoSeq1.idx_int
    have c1 : (its.isEmpty || (1 : Int) == 1) = true := by rw [ne]; rfl
    wp_walk using wpAny_loadPart' hl
    repeat (first
      | (refine wpAny_ite_true (decide_eq_true c1) ?_; wp_walk using wpAny_loadPart' hl)
      | (refine wpAny_ite_false (decide_eq_false (by decide)) ?_; wp_walk using wpAny_loadPart' hl))
    exact ⟨_, rfl, want⟩
theorem tmul_none (l : Addr) (its : Array Value) (n : Nat) (dd : Option Addr) (sl : Array (Option Value)) (u : Tok) (ne : its.isEmpty = false) :
    Meets (Builtin.«tuple.__mul__» ⟨[.ref l, .int 0 u], []⟩) (fun _ R s => s.heap.get? l = some { cls := .type "tuple", dict := dd, data := .seq its n, slots := sl } ∧
      R (.ok (.ret (Value.ref s.heap.objs.size))) { s with heap := s.heap.push { cls := Value.type "tuple", data := Data.seq #[] }, toks := s.toks }) :=
  .of_wp fun prog w A R s0 want => by
    obtain ⟨hp, g, d, tk, os⟩ := s0
    obtain ⟨hl, want⟩ := want
    have f1 := AutoSeq1.idx_int
    have c1 : (its.isEmpty || (0 : Int) == 1) = false := by rw [ne]; rfl
    have c2 : (decide ((0 : Int) ≤ 0) || its.isEmpty) = true := by rw [ne]; rfl
    wp_walk using wpAny_loadPart' hl
    repeat (first
      | (refine wpAny_ite_false (decide_eq_false (by rw [c1]; exact Bool.false_ne_true)) ?_; wp_walk using wpAny_loadPart' hl)
      | (refine wpAny_ite_true (decide_eq_true c2) ?_; wp_walk using wpAny_loadPart' hl)
      | (refine wpAny_ite_false (decide_eq_false (by decide)) ?_; wp_walk using wpAny_loadPart' hl))
    exact ⟨_, rfl, want⟩
/-- (x,) * int(b): a tuple of one or none -/
def rRep01 (K : PySem.W.Frag) : R2 := fun x y H Q => ∃ (l : Addr) (xs : List V) (b : Bool), x = .ref l ∧ y = .int (if b then 1 else 0) ∧ SqT K H l xs ∧ xs ≠ [] ∧ (b = true → Q (.ref l) H) ∧ (b = false → ∀ p, H p = none → Q (.ref p) (upd H p (.tup [])))
theorem op_rep01 {X : Cx} : OpR X (binaryOp .Mult) (rRep01 X.K) := by
  intro pins s0 τ G x y v u Q J rx ry want
  obtain ⟨l, xs, b, rfl, rfl, hT, hne, q1, q2⟩ := want
  cases rx
  obtain ⟨t, rfl⟩ := ry
  obtain ⟨its, r, ⟨⟨cls, dd, data, sl⟩, ho, hc, n, hd⟩, hs⟩ := J.tuple hT
  simp only at hc hd
  subst hc hd
  have hi : its.toArray.isEmpty = false := by
    cases its with
    | nil =>
      have := r.length
      exact absurd (List.eq_nil_of_length_eq_zero this) hne
    | cons a b => rfl
  cases b with
  | true =>
    refine wpAny_binaryOp_repeat_ref (T := "tuple") (U := "int") (by decide) ⟨_, ho, rfl⟩ (fun s' => typeIs_int s' 1 t) noFill_tuple_mul F.fills_int_mul F.slot_int_rmul repeat_tuple F.slot_int_index.lookup
      (call_meets F.slot_int_rmul (typeIs_int s0 1 t) F.entry_int_rmul (F.args_int_rmul_2 _ _) (int_rmul_tuple 1 t l its.toArray n dd sl)
        ⟨ho, rfl, ⟨_, ho, rfl⟩, call_meets F.slot_tuple_mul ⟨_, ho, rfl⟩ F.entry_tuple_mul (F.args_tuple_mul_2 _ _) (tmul_one l its.toArray n dd sl t hi) ⟨ho, ?_⟩⟩)
    exact ⟨.ref l, G, J, rfl, q1 rfl⟩
  | false =>
    refine wpAny_binaryOp_repeat_ref (T := "tuple") (U := "int") (by decide) ⟨_, ho, rfl⟩ (fun s' => typeIs_int s' 0 t) noFill_tuple_mul F.fills_int_mul F.slot_int_rmul repeat_tuple F.slot_int_index.lookup
      (call_meets F.slot_int_rmul (typeIs_int s0 0 t) F.entry_int_rmul (F.args_int_rmul_2 _ _) (int_rmul_tuple 0 t l its.toArray n dd sl)
        ⟨ho, rfl, ⟨_, ho, rfl⟩, call_meets F.slot_tuple_mul ⟨_, ho, rfl⟩ F.entry_tuple_mul (F.args_tuple_mul_2 _ _) (tmul_none l its.toArray n dd sl t hi) ⟨ho, ?_⟩⟩)
    refine ⟨.ref s0.heap.objs.size, _, J.laid (t' := s0.toks) (o := .tup []) (fun b ob e => Heap.get?_push_of_some _ e) (Nat.le_refl _) ?_, rfl, q2 rfl _ (J.hok.fresh (Nat.le_refl _))⟩
    exact ⟨Nat.zero_le _, [], .nil, IsTup.new _ _⟩
end KwX
set_option Elab.async false
set_option linter.all false
set_option maxRecDepth 100000
set_option maxHeartbeats 4000000
namespace KwZ
open PySem PySem.Spec PyProof.Rows L2 KwS
/-! ### sorted(t), t a tuple of texts -/
section
variable {X : Cx}
def rSortStT (K : PySem.W.Frag) : List V → Hp → VK → Prop := fun vs H Q => ∃ (a : Addr) (xs : List Str), vs = [V.ref a] ∧ SqT K H a (xs.map V.str) ∧ xs.length ≤ 50 ∧ ∀ (ys : List Str) (p : Addr), ys.Perm xs → sortedS ys = true → H p = none → Q (.ref p) (upd H p (.lst (ys.map V.str)))
theorem cr_sortStT : CallR X (.builtin "sorted") (rSortStT X.K) := by
  intro pins s σ H vs us Q I r h
  obtain ⟨a, xs, rfl, hs, hn, q⟩ := h
  obtain ⟨its, rv, pt, hz⟩ := I.tuple hs
  rw [Vals.ref1 r]
  have hS := rv.strs
  have hzl : its.length ≤ sizeLine := by rw [← rv.length]; exact hz
  have hil : its.length ≤ 50 := by rw [← rv.length, List.length_map]; exact hn
  have z1 : (grown s.heap its).objs.size = s.heap.objs.size + 1 := by
    unfold grown
    rw [Heap.size_update, size_push']
  have hoL : ((grown s.heap its).push (seqObj "list" its.toArray 0)).get? (grown s.heap its).objs.size = some (seqObj "list" its.toArray 0) := Heap.get?_push_size _ rfl
  refine Calls.call_function_entry kind_sorted plain_sorted entry_sorted (args_sorted1 _) ?_
  unfold Builtin.«sorted»
  refine wpAny_bind (m := checkCount "sorted" 1 1 _) (wpAny_pure (wpAny_bind (coll_tup pt hzl (wpAny_bind (wpAny_newList ?_ hzl)))))
  refine wpAny_bind (wpAny_holding (wpAny_call_entry slot_list_sort ⟨_, hoL, rfl⟩ entry_list_sort (list_sort_treeK PyProof.Rows.strKind_oneLt hoL hS.keysOf (fun v1 v2 rest e => keyKind_strs (by rw [← e]; exact hS)) (by omega) fun st hp2 hs2 => ⟨_, rfl, ?_⟩) (args_list_sort _)))
  obtain ⟨ys, y1, y2, y3⟩ := sorted_out_str hS hp2 hs2
  obtain ⟨e9, he9⟩ := sortedHeap_at (vs := its) (out := (arrOf st).map (·.2)) hoL
  have kp : ∀ b o, s.heap.get? b = some o → (sortedHeap ((grown s.heap its).push (seqObj "list" its.toArray 0)) (grown s.heap its).objs.size its ((arrOf st).map (·.2))).get? b = some o := fun b o e => by
    have lt := Heap.lt_size e
    rw [sortedHeap_old (by rw [z1]; exact Nat.ne_of_lt (Nat.lt_succ_of_lt lt)) (by rw [size_push', z1]; exact Nat.lt_succ_of_lt (Nat.lt_succ_of_lt lt))]
    refine Heap.get?_push_of_some _ ?_
    unfold grown
    rw [Heap.get?_update_ne _ _ _ _ (Nat.ne_of_lt lt)]
    exact Heap.get?_push_of_some _ e
  have hlen : (ys.map V.str).length ≤ sizeLine := by
    rw [List.length_map, y2.length_eq]
    exact Nat.le_trans hn (by decide)
  have hge : s.heap.objs.size ≤ (grown s.heap its).objs.size := by rw [z1]; exact Nat.le_succ _
  exact wpAny_pure ⟨_, rfl, .ref _, upd H (grown s.heap its).objs.size (.lst (ys.map V.str)), I.laid (t' := s.toks) kp hge ⟨hlen, ((arrOf st).map (·.2)).toList, e9, vals_of_strs y1, by rw [Array.toArray_toList]; exact he9⟩, rfl, q ys _ y2 y3 (I.hok.fresh hge)⟩
/-- either rule -/
theorem cr_or {v : Value} {r1 r2 : List V → Hp → VK → Prop} (h1 : CallR X v r1) (h2 : CallR X v r2) : CallR X v (fun vs H Q => r1 vs H Q ∨ r2 vs H Q) := by
  intro pins s σ H vs us Q I r h
  rcases h with h | h
  · exact h1 pins s σ H vs us Q I r h
  · exact h2 pins s σ H vs us Q I r h
end
end KwZ
set_option Elab.async false
set_option linter.all false
set_option maxRecDepth 100000
set_option maxHeartbeats 4000000
namespace Kw
open PySem PySem.Spec PyProof.Rows L2 Evl KwX NdefX LamX
section
variable {P : Program} {w : World} {K : PySem.W.Frag} {mg : Str → Option Value} {base : Heap}
theorem fld_ok {C a dd : Addr} {nm f : Str} {v : V} {k4 k6 k7 k8 k0 k1 k2 k3 : Option V} {H : Hp} {D : Ends} (F : FldT K C f) (hd : H dd = some (.xd [(f, v)])) (q : ∀ p, H p = none → D.nx [k0, k1, k2, k3, some (.ref p), some (.ref a), k6, k7, k8] (upd H p (.lst [.str nm, v, .bl true]))) :
    tFld K C nm f a (.ref C) (some dd) D [k0, k1, k2, k3, k4, some (.ref a), k6, k7, k8] H := by
  refine ⟨.ref a, rfl, rfl, rfl, dd, _, v, rfl, hd, by simp [List.lookup], .ref a, rfl, .ty "ValueError", .type "ValueError", true, dd, _, rfl, rfl, hd, (fun u r => r), F.v, by show 3 ≤ sizeLine; decide, fun p np => q p np⟩
theorem refG_core {mk : Addr → NF} {b : Expr} {spL : Sp} {dT dL dB : Addr} {d : Nat → Addr} {rs : Nat → Bool} {rT rL : Bool} (T : RefG K mg d rs rT rL dT dL dB) (vs : List V) (H : Hp) (Q : VK) (E : XK) (h : spRefG d mk b spL rs rT rL dT dL vs H Q E) (nx bk ct : L2.St → Hp → Prop) :
    tRefG K d mk b spL rs rT rL dT dL dB ⟨nx, Q, bk, ct⟩ (start ["call", "one", "two", "three", "kin", "e", "words", "word", "there"] vs) H := by
  obtain ⟨f, c', v1, v2, v3, Φ, rfl, hf, hc, q, q0, q1⟩ := h
  show tRefG K d mk b spL rs rT rL dT dL dB ⟨nx, Q, bk, ct⟩ [some (.ref f), some v1, some v2, some v3, none, none, none, none, none] H
  refine q_asgL (i := 4) (xs := []) (el_lst ea_nil (by decide)) fun kp H1 n1 e1 hk => ?_
  refine ⟨f, c', rfl, e1 _ _ hf, v1, rfl, v2, rfl, v3, rfl, e1 _ _ hf, e1 _ _ hc, ?_⟩
  refine q H1 e1 _ _ (fun v H2 h2 => ?_) (fun H2 dd hr h2 hd => ?_) (fun c H2 dd hr h2 hd => ?_) (fun i H2 hi hr h2 => ?_)
  · exact ⟨.ref kp, rfl, q0 H1 H2 kp e1 n1 hk h2⟩
  · refine ⟨true, (T.t hr).1, (fun _ a na => ⟨⟨hr, rfl⟩, fld_ok (T.t hr).2 hd fun p np => ?_⟩), fun z => by cases z⟩
    exact ⟨.ref p, rfl, q1 H1 .many H2 p _ e1 (fun z => by cases z) h2 np (Ex.new np) upd_same⟩
  · refine ⟨false, (T.l hr).1, (fun z => by cases z), fun _ => ⟨true, (T.l hr).2.1, (fun _ a na => ⟨⟨hr, rfl⟩, fld_ok (T.l hr).2.2 hd fun p np => ?_⟩), fun z => by cases z⟩⟩
    exact ⟨.ref p, rfl, q1 H1 (.locked c) H2 p _ e1 (fun z => by cases z) h2 np (Ex.new np) upd_same⟩
  · have T := T.c i hi hr
    refine ⟨false, T.eT, (fun h => by cases h), fun _ => ⟨false, T.eL, (fun h => by cases h), fun _ => ⟨true, T.eB, fun _ a na => ⟨i, ⟨hi, hr, rfl, rfl⟩, ?_⟩, fun h => by cases h⟩⟩⟩
    refine sui_ok (a := a) T fun p y6 y7 y8 H3 np e3 hp => ?_
    exact ⟨.ref p, rfl, q1 H1 (.cls i) H2 p H3 e1 (fun z => by cases z) h2 np e3 hp⟩
theorem ok_refG {f : Addr} {fd : FuncData} {k : Nat} {mk : Addr → NF} {b : Expr} {ps : List Str} {spL : Sp} {dT dL dB : Addr} {d : Nat → Addr} {rs : Nat → Bool} {rT rL : Bool} (F : Fun K "_law_refused" "_law_refused" sRef f fd) (T : RefG K mg d rs rT rL dT dL dB) (L : ∀ c', LOk P w K mg base (L2N.CX P w) k (mk c') b ps spL) : FnOk P w K mg base CX0 (k + 1) f fd ["call", "one", "two", "three"] (spRefG d mk b spL rs rT rL dT dL) := ok_refG' F T L fun vs H Q E h nx bk ct => refG_core T vs H Q E h nx bk ct
end
end Kw
set_option Elab.async false
set_option linter.all false
set_option maxRecDepth 100000
set_option maxHeartbeats 4000000
namespace Kw
open PySem PySem.Spec PyProof.Rows L2 Evl
theorem Bag.other {H H' : Hp} {a b : Addr} (hb : Bag H b) (ha : Bag H a) (e : ExB a H H') (ha' : Bag H' a) : Bag H' b := by
  by_cases hab : b = a
  · rw [hab]
    exact ha'
  · obtain ⟨d, n, xs, g1, g2, g3⟩ := hb
    obtain ⟨d', n', xs', f1, _⟩ := ha
    have hd : d ≠ a := fun z => by
      rw [z, f1] at g2
      have e := congrArg List.length (HO.lst.inj (Option.some.inj g2))
      rw [List.length_map, g3.1] at e
      cases e
    exact ⟨d, n, xs, e _ _ hab g1, e _ _ hd g2, g3⟩
/-- the loop over the bags of a script -/
theorem bags_for {K : PySem.W.Frag} {lim : Nat} {D : Ends} {body : TS} {σ : L2.St} {H : Hp} {a : Addr} {ns : List Int} (S : L2.St → Prop) (h0 : σ[0]? = some (some (.ref a))) (hS : SqL K H a (ns.map V.int)) (hl : ns.length ≤ 63) (hs : S σ)
    (turn : ∀ b H1 σ' (N : L2.St → Hp → Prop), S σ' → Bag H1 b → (∀ σ'' H'', S σ'' → ExB b H1 H'' → Bag H'' b → N σ'' H'') → body { D with nx := N, ct := N, bk := D.nx } (σ'.set 1 (some (.ref b))) H1)
    (done : ∀ σ' H', S σ' → D.nx σ' H') : tFor (iList K (tCall (spBags K lim) [] E0 (tCons (tVar 0) (tCons (tC (.int lim)) tNil)))) (gName 1) body D σ H := by
  refine ⟨.ref a, h0, a, ns, rfl, hS, by omega, fun p ys H1 np e1 hp hB hne hln => ⟨p, rfl, ⟨ys, sq_of hp⟩, ?_⟩⟩
  refine for_it (walk_list (K := K) (a := p) (xs := ys)) (fun _ σ' H' => S σ' ∧ H' p = some (.lst ys) ∧ BagsAt H' ys) ⟨hs, hp, hB⟩ (fun i σ' H' _ hP => sq_of hP.2.1) (fun i x σ' H2 H3 hi hP hy => ?_) (fun σ' H2 hP => done σ' H2 hP.1)
  obtain ⟨s2, hp2, hB2⟩ := hP
  obtain ⟨rfl, hx⟩ := hy
  have hm := List.mem_of_getElem? hx
  obtain ⟨b, rfl, hb⟩ := hB2 x hm
  have hpb : p ≠ b := fun z => hne _ hm (by rw [z])
  exact turn b _ σ' _ s2 hb fun σ'' H'' hs x2 b2 => ⟨hs, x2 _ _ hpb hp2, (fun y hy => by
    obtain ⟨b', rfl, hb'⟩ := hB2 y hy
    exact ⟨b', rfl, hb'.other hb x2 b2⟩)⟩
def spLaw (K : PySem.W.Frag) : Sp := fun vs H Q _ => ∃ (a : Addr) (ns : List Int), vs = [.ref a] ∧ SqL K H a (ns.map V.int) ∧ ns.length ≤ 63 ∧ ∀ H', Q (.bl true) H'
/-- the slots of a law: the script's, then n others -/
def SlotsN (a : Addr) (n : Nat) (σ : L2.St) : Prop := ∃ ys : List (Option V), ys.length = n ∧ σ = some (.ref a) :: ys
end Kw
set_option Elab.async false
set_option linter.all false
set_option maxRecDepth 100000
set_option maxHeartbeats 4000000
namespace Kw
open PySem PySem.Spec PyProof.Rows L2 Evl KwX NdefX LamX
/-- all but the bag at a and the tables stays -/
def XB (a : Addr) (H H' : Hp) : Prop := ∀ b o, b ≠ a → H b = some o → (∀ ps, o ≠ .tbl ps) → H' b = some o
theorem XB.refl (a : Addr) (H : Hp) : XB a H H := fun _ _ _ h _ => h
theorem XB.trans {a : Addr} {H H1 H2 : Hp} (x : XB a H H1) (y : XB a H1 H2) : XB a H H2 := fun b o n h t => y b o n (x b o n h t) t
theorem XB.b {a : Addr} {H H' : Hp} (e : ExB a H H') : XB a H H' := fun b o n h _ => e b o n h
theorem XB.n {a : Addr} {H H' : Hp} (e : ExtN H H') : XB a H H' := fun b o _ h t => e b o h t
theorem XB.ex {a : Addr} {H H' : Hp} (e : Ex H H') : XB a H H' := fun b o _ h _ => e b o h
theorem Bag.n {H H' : Hp} {a : Addr} (e : ExtN H H') (h : Bag H a) : Bag H' a := by
  obtain ⟨d, n, xs, h1, h2, h3⟩ := h
  exact ⟨d, n, xs, e _ _ h1 (fun ps z => by cases z), e _ _ h2 (fun ps z => by cases z), h3⟩
theorem Tabs.bag {T : List (Addr × Str)} {H H' : Hp} {a : Addr} (h : Bag H a) (e : ExB a H H') (t : Tabs T H) : Tabs T H' := fun p hp => by
  obtain ⟨d, n, xs, g1, _⟩ := h
  obtain ⟨ps, h1, h2, h3⟩ := t p hp
  have ne1 : p.1 ≠ a := fun z => by
    rw [z, g1] at h1
    cases h1
  refine ⟨ps, e _ _ ne1 h1, h2, fun pos cv hc => ?_⟩
  obtain ⟨c, e1, e2⟩ := h3 pos cv hc
  refine ⟨c, e1, e _ _ (fun z => ?_) e2⟩
  rw [z, g1] at e2
  unfold CodeO at e2
  cases e2
theorem Bag.otherX {H H' : Hp} {a b : Addr} (hb : Bag H b) (ha : Bag H a) (e : XB a H H') (ha' : Bag H' a) : Bag H' b := by
  by_cases hab : b = a
  · rw [hab]
    exact ha'
  · obtain ⟨d, n, xs, g1, g2, g3⟩ := hb
    obtain ⟨d', n', xs', f1, _⟩ := ha
    have hd : d ≠ a := fun z => by
      rw [z, f1] at g2
      have e := congrArg List.length (HO.lst.inj (Option.some.inj g2))
      rw [List.length_map, g3.1] at e
      cases e
    exact ⟨d, n, xs, e _ _ hab g1 (fun ps z => by cases z), e _ _ hd g2 (fun ps z => by cases z), g3⟩
theorem XB.keepT {H H' : Hp} {a : Addr} (h : Bag H a) (e : XB a H H') : KeepT H H' := fun b xs r => by
  obtain ⟨d, n, ys, h1, _⟩ := h
  have nb : b ≠ a := by
    rintro rfl
    rcases r with r | ⟨o, r⟩
    · rw [h1] at r; cases r
    · rw [h1] at r; cases r
  rcases r with r | ⟨o, r⟩
  · exact .inl (e _ _ nb r (fun ps z => by cases z))
  · exact .inr ⟨o, e _ _ nb r (fun ps z => by cases z)⟩
/-- the loop over the bags of a script, lambdas made on the way -/
theorem bags_forT {K : PySem.W.Frag} {T : List (Addr × Str)} {lim : Nat} {D : Ends} {body : TS} {σ : L2.St} {H : Hp} {a : Addr} {ns : List Int} (S : L2.St → Prop) (h0 : σ[0]? = some (some (.ref a))) (hS : SqL K H a (ns.map V.int)) (hl : ns.length ≤ 63) (hT : Tabs T H) (hs : S σ)
    (turn : ∀ b H1 σ' (N : L2.St → Hp → Prop), S σ' → Bag H1 b → Tabs T H1 → (∀ σ'' H'', S σ'' → XB b H1 H'' → Bag H'' b → Tabs T H'' → N σ'' H'') → body { D with nx := N, ct := N, bk := D.nx } (σ'.set 1 (some (.ref b))) H1)
    (done : ∀ σ' H', S σ' → Tabs T H' → D.nx σ' H') : tFor (iList K (tCall (spBags K lim) [] E0 (tCons (tVar 0) (tCons (tC (.int lim)) tNil)))) (gName 1) body D σ H := by
  refine ⟨.ref a, h0, a, ns, rfl, hS, by omega, fun p ys H1 np e1 hp hB hne hln => ⟨p, rfl, ⟨ys, sq_of hp⟩, ?_⟩⟩
  refine for_it (walk_list (K := K) (a := p) (xs := ys)) (fun _ σ' H' => S σ' ∧ H' p = some (.lst ys) ∧ BagsAt H' ys ∧ Tabs T H') ⟨hs, hp, hB, hT.ext e1⟩ (fun i σ' H' _ hP => sq_of hP.2.1) (fun i x σ' H2 H3 hi hP hy => ?_) (fun σ' H2 hP => done σ' H2 hP.1 hP.2.2.2)
  obtain ⟨s2, hp2, hB2, hT2⟩ := hP
  obtain ⟨rfl, hx⟩ := hy
  have hm := List.mem_of_getElem? hx
  obtain ⟨b, rfl, hb⟩ := hB2 x hm
  have hpb : p ≠ b := fun z => hne _ hm (by rw [z])
  exact turn b _ σ' _ s2 hb hT2 fun σ'' H'' hs x2 b2 t2 => ⟨hs, x2 _ _ hpb hp2 (fun ps z => by cases z), (fun y hy => by
    obtain ⟨b', rfl, hb'⟩ := hB2 y hy
    exact ⟨b', rfl, hb'.otherX hb x2 b2⟩), t2⟩
def spLawX (K : PySem.W.Frag) (T : List (Addr × Str)) : Sp := fun vs H Q _ => ∃ (a : Addr) (ns : List Int), vs = [.ref a] ∧ SqL K H a (ns.map V.int) ∧ ns.length ≤ 63 ∧ Tabs T H ∧ ∀ H', Q (.bl true) H'
section
variable {K : PySem.W.Frag} {T : List (Addr × Str)} {C : Addr} {σ : L2.St} {H : Hp} {D : Ends} {tu tz : TS} {ta : TA} {mk : Addr → NF} {b : Expr} {spL : Sp}
/-- a list of a text and True, beside the like -/
theorem rv_neSB {p q : Addr} {x y : Str} (sx : PyData.strOk x = true) (sy : PyData.strOk y = true) (h1 : SqL K H p [.str x, .bl true]) (h2 : SqL K H q [.str y, .bl true]) : RV (rNeD K) (.ref p) (.ref q) H (.bl (!decide (x = y))) := fun H1 e Q k =>
  ⟨.list [.str x, .bool true], .list [.str y, .bool true], .lst (ex_l e h1) (.cons (.str x) (.cons (.bl true) .nil)), .lst (ex_l e h2) (.cons (.str y) (.cons (.bl true) .nil)), by simp [SeqAt.shaped, PyData.canLayAll0, PyData.canLay0, PyData.depth, PyData.depthAll, sx], by simp [SeqAt.shaped, PyData.canLayAll0, PyData.canLay0, PyData.depth, PyData.depthAll, sy], by
    have : PyData.eqv (.list [.str x, .bool true]) (.list [.str y, .bool true]) = decide (x = y) := by
      simp [PyData.eqv, PyData.eqvAll, str_beq]
    rw [this]
    exact k H1 (Ex.refl H1)⟩
/-- if _law_refused(lambda .., ..) != ["X", True]: .. , where X is refused -/
theorem s_ref (j : Nat) {v1 v2 v3 : V} {nm : Str} (hnm : PyData.strOk nm = true) (hres : resV (fun i => decide (i = j)) = [.str nm, .bl true]) (hT : Tabs T H) (ha : ∀ H1, ExtN H H1 → EvA ta σ H1 [v1, v2, v3])
    (hL : ∀ H1, ExtN H H1 → ∀ (Q' : VK) (E' : XK), (∀ H2, Ex H1 H2 → E' (.ref C) none H2) → spL [v1, v2, v3] H1 Q' E') (k : ∀ H1, ExtN H H1 → Tabs T H1 → D.nx σ H1) (hmk : ∀ c', (mk c').c = c' := by intro _; rfl) :
    tIfS (tTest (tOp (rNeD K) (tCall (spRef K mk b spL C (fun i => decide (i = j))) [] E0 (tCons (tLamV T mk b) ta)) (tLst (tCons (tC (.str nm)) (tCons (tC (.bl true)) tNil))))) tu tNext D σ H := by
  refine ⟨hT, fun f c' H1 eN nn T1 nf hf hc => ha H1 eN H1 (Ex.refl H1) _ fun H2 e2 => ⟨f, c', v1, v2, v3, rfl, e2 _ _ hf, by rw [hmk]; exact e2 _ _ hc, fun H3 e Q' E' hE => hL H3 (fun b o hb n => (e2.trans e) _ _ (eN b o hb n)) Q' E' hE, fun p H3 np e3 hp => ?_⟩⟩
  refine ⟨by show 2 ≤ sizeLine; decide, fun q nq => ?_⟩
  rw [hres] at hp
  have e4 := Ex.new (o := .lst [.str nm, .bl true]) nq
  refine rv_neSB (K := K) (x := nm) (y := nm) hnm hnm (sq_of (e4 _ _ hp)) (sq_of upd_same) _ (Ex.refl _) _ fun H5 e5 => ⟨_, rfl, ?_⟩
  rw [decide_eq_true rfl]
  have eA := ((e2.trans e3).trans e4).trans e5
  exact k H5 (fun b o hb n => eA _ _ (eN b o hb n)) (T1.ext eA)
theorem q_ref (j : Nat) {v1 v2 v3 : V} {nm : Str} (hnm : PyData.strOk nm = true) (hres : resV (fun i => decide (i = j)) = [.str nm, .bl true]) (hT : Tabs T H) (ha : ∀ H1, ExtN H H1 → EvA ta σ H1 [v1, v2, v3])
    (hL : ∀ H1, ExtN H H1 → ∀ (Q' : VK) (E' : XK), (∀ H2, Ex H1 H2 → E' (.ref C) none H2) → spL [v1, v2, v3] H1 Q' E') (k : ∀ H1, ExtN H H1 → Tabs T H1 → tz D σ H1) (hmk : ∀ c', (mk c').c = c' := by intro _; rfl) :
    tSeq (tIfS (tTest (tOp (rNeD K) (tCall (spRef K mk b spL C (fun i => decide (i = j))) [] E0 (tCons (tLamV T mk b) ta)) (tLst (tCons (tC (.str nm)) (tCons (tC (.bl true)) tNil))))) tu tNext) tz D σ H :=
  s_ref (D := { D with nx := tz D }) j hnm hres hT ha hL k hmk
end
end Kw
set_option Elab.async false
set_option linter.all false
set_option maxRecDepth 100000
set_option maxHeartbeats 4000000
namespace Kw
open PySem PySem.Spec PyProof.Rows L2 Evl KwX NdefX LamX
/-! ### asked of _law_refused in a law -/
def dataO : Out → List PyData
  | .fine => []
  | .many => [.str "TooMany", .int 10, .bool true]
  | .locked c => [.str "Locked", .str c, .bool true]
  | .cls i => [.str (nmC i), .bool true]
def OkO : Out → Prop
  | .locked c => PyData.strOk c = true
  | .cls i => i < 14
  | _ => True
theorem res_cls {i : Nat} (h : i < 14) : resO (.cls i) = [.str (nmC i), .bl true] := by
  match i, h with
  | 0, _ | 1, _ | 2, _ | 3, _ | 4, _ | 5, _ | 6, _ | 7, _ | 8, _ | 9, _ | 10, _ | 11, _ | 12, _ | 13, _ => rfl
theorem nmC_ok {i : Nat} (h : i < 14) : PyData.strOk (nmC i) = true := by
  match i, h with
  | 0, _ | 1, _ | 2, _ | 3, _ | 4, _ | 5, _ | 6, _ | 7, _ | 8, _ | 9, _ | 10, _ | 11, _ | 12, _ | 13, _ => decide +kernel
theorem res_dp {K : PySem.W.Frag} {H : Hp} {o : Out} (h : OkO o) : DpAll K H (resO o) (dataO o) := by
  cases o with
  | fine => exact .nil
  | many => exact .cons (.str _) (.cons (.int _) (.cons (.bl _) .nil))
  | locked c => exact .cons (.str _) (.cons (.str _) (.cons (.bl _) .nil))
  | cls i =>
    rw [res_cls h]
    exact .cons (.str _) (.cons (.bl _) .nil)
theorem res_shaped {o : Out} (h : OkO o) : SeqAt.shaped (.list (dataO o)) = true := by
  cases o with
  | fine => decide +kernel
  | many => decide +kernel
  | locked c =>
    have h : PyData.strOk c = true := h
    simp [dataO, SeqAt.shaped, PyData.canLayAll0, PyData.canLay0, PyData.depth, PyData.depthAll, h]
    decide +kernel
  | cls i =>
    have h := nmC_ok h
    simp [dataO, SeqAt.shaped, PyData.canLayAll0, PyData.canLay0, PyData.depth, PyData.depthAll, h]
theorem res_eqv {o : Out} : PyData.eqv (.list (dataO o)) (.list (dataO o)) = true := by
  cases o <;> simp [dataO, PyData.eqv, PyData.eqvAll]
section
variable {K : PySem.W.Frag} {T : List (Addr × Str)} {σ : L2.St} {H : Hp} {D : Ends} {tu tz : TS} {ta : TA} {tc : TE} {mk : Addr → NF} {b : Expr} {spL : Sp} {d : Nat → Addr} {rs : Nat → Bool} {rT rL : Bool} {dT dL : Addr}
/-- what is refused so, and all else stays -/
def OnlyO (o : Out) : Hp → Out → Hp → Prop := fun H1 o' H2 => o' = o ∧ Ex H1 H2
theorem ref_run (o : Out) {v1 v2 v3 : V} {Q : VK} (hT : Tabs T H) (ha : ∀ H1, ExtN H H1 → EvA ta σ H1 [v1, v2, v3])
    (hL : ∀ H1, ExtN H H1 → Ends4 d spL [v1, v2, v3] rs rT rL dT dL H1 (OnlyO o H1)) (k : ∀ p H1, ExtN H H1 → Tabs T H1 → H1 p = some (.lst (resO o)) → Q (.ref p) H1) (hmk : ∀ c', (mk c').c = c' := by intro _; rfl) :
    tCall (spRefG d mk b spL rs rT rL dT dL) [] E0 (tCons (tLamV T mk b) ta) σ H Q := by
  refine ⟨hT, fun f c' H1 eN nn T1 nf hf hc => ha H1 eN H1 (Ex.refl H1) _ fun H2 e2 => ⟨f, c', v1, v2, v3, fun G => OnlyO o G, rfl, e2 _ _ hf, by rw [hmk]; exact e2 _ _ hc, fun H3 e => hL H3 (fun b o hb n => (e2.trans e) _ _ (eN b o hb n)), fun G1 G2 kp e3 nk hk hO => ?_, fun G1 o' G2 p G3 e3 no hO np e4 hp => ?_⟩⟩
  · obtain ⟨rfl, e4⟩ := hO
    have eA := (e2.trans e3).trans e4
    exact k kp G2 (fun b o hb n => eA _ _ (eN b o hb n)) (T1.ext eA) (e4 _ _ hk)
  · obtain ⟨rfl, e5⟩ := hO
    have eA := ((e2.trans e3).trans e5).trans e4
    exact k p G3 (fun b o hb n => eA _ _ (eN b o hb n)) (T1.ext eA) hp
/-- if _law_refused(lambda .., ..) != [..]: .. -/
theorem s_refG (o : Out) (oo : OkO o) {v1 v2 v3 : V} (hT : Tabs T H) (ha : ∀ H1, ExtN H H1 → EvA ta σ H1 [v1, v2, v3]) (hc : ∀ H1, EvD K tc σ H1 (.list (dataO o)))
    (hL : ∀ H1, ExtN H H1 → Ends4 d spL [v1, v2, v3] rs rT rL dT dL H1 (OnlyO o H1)) (k : ∀ H1, ExtN H H1 → Tabs T H1 → D.nx σ H1) (hmk : ∀ c', (mk c').c = c' := by intro _; rfl) :
    tIfS (tTest (tOp (rNeD K) (tCall (spRefG d mk b spL rs rT rL dT dL) [] E0 (tCons (tLamV T mk b) ta)) tc)) tu tNext D σ H := by
  refine ref_run o hT ha hL (fun p H1 eN T1 hp => ?_) hmk
  refine hc H1 H1 (Ex.refl H1) _ fun v H2 e2 hv => ?_
  refine rv_neDp (K := K) (d := .list (dataO o)) (e := .list (dataO o)) (.lst (sq_of (e2 _ _ hp)) (res_dp oo)) hv (res_shaped oo) (res_shaped oo) _ (Ex.refl _) _ fun H3 e3 => ⟨_, rfl, ?_⟩
  rw [res_eqv]
  have eA := e2.trans e3
  exact k H3 (fun b o hb n => eA _ _ (eN b o hb n)) (T1.ext eA)
theorem q_refG (o : Out) (oo : OkO o) {v1 v2 v3 : V} (hT : Tabs T H) (ha : ∀ H1, ExtN H H1 → EvA ta σ H1 [v1, v2, v3]) (hc : ∀ H1, EvD K tc σ H1 (.list (dataO o)))
    (hL : ∀ H1, ExtN H H1 → Ends4 d spL [v1, v2, v3] rs rT rL dT dL H1 (OnlyO o H1)) (k : ∀ H1, ExtN H H1 → Tabs T H1 → tz D σ H1) (hmk : ∀ c', (mk c').c = c' := by intro _; rfl) :
    tSeq (tIfS (tTest (tOp (rNeD K) (tCall (spRefG d mk b spL rs rT rL dT dL) [] E0 (tCons (tLamV T mk b) ta)) tc)) tu tNext) tz D σ H :=
  s_refG (D := { D with nx := tz D }) o oo hT ha hc hL k hmk
end
end Kw
set_option Elab.async false
set_option linter.all false
set_option maxRecDepth 100000
set_option maxHeartbeats 4000000
namespace Kw
open PySem PySem.Spec PyProof.Rows L2 Evl
/-- [c, ..][_law_take(bag, n)] -/
theorem menu {K : PySem.W.Frag} {σ : L2.St} {H : Hp} {ta : TA} {cs : List Int} {i : Nat} {a : Addr} {n : Int} {Q : VK} (ha : EvA ta σ H (cs.map V.int)) (hn : n = (cs.length : Int)) (hl : 1 ≤ cs.length ∧ cs.length ≤ 1000) (h0 : σ[i]? = some (some (.ref a))) (hB : Bag H a)
    (q : ∀ c H', c ∈ cs → ExB a H H' → Bag H' a → Q (.int c) H') : tOp (rIxL K) (tLst ta) (tCall (spTake K) [] E0 (tCons (tVar i) (tCons (tC (.int n)) tNil))) σ H Q := by
  refine el_lst ha (by rw [List.length_map]; omega) H (Ex.refl H) _ fun l H1 nl e1 hl1 => ?_
  refine ⟨.ref a, h0, a, n, rfl, hB.ex e1, by omega, fun r H2 r0 r1 x2 b2 => ?_⟩
  obtain ⟨j, hj⟩ := Int.eq_ofNat_of_zero_le r0
  have hj' : j < cs.length := by omega
  have nla : l ≠ a := fun z => by
    obtain ⟨da, na, xa, hBa, _⟩ := hB
    rw [z, hBa] at nl
    cases nl
  exact ⟨l, cs.map V.int, r, .int cs[j], rfl, rfl, sq_of (x2 _ _ nla hl1), by rw [hj]; exact atI_nat (by rw [List.getElem?_map, List.getElem?_eq_getElem hj']; rfl), q _ H2 (List.getElem_mem hj') ((ExB.of e1).trans x2) b2⟩
def FromNames (h : House) : Prop := (∀ b ∈ h.1, (∀ c ∈ b.1, c ∈ names12) ∧ ∀ c ∈ b.2, c ∈ names12) ∧ ∀ c ∈ h.2, c ∈ names12
theorem OkCols.mono {cs : List Str} {m n : Nat} (h : OkCols cs m) (hmn : m ≤ n) : OkCols cs n := ⟨Nat.le_trans h.1 hmn, h.2⟩
section
variable {P : Program} {w : World} {K : PySem.W.Frag} {mg : Str → Option Value} {base : Heap}
def spHs (K : PySem.W.Frag) : Sp := fun vs H Q _ => ∃ (a : Addr) (nb nl w : Nat), vs = [.ref a, vN nb, vN nl, vN w] ∧ Bag H a ∧ 1 ≤ nb ∧ nb ≤ 30 ∧ nl ≤ 3 ∧ 1 ≤ w ∧ w ≤ 12 ∧
  ∀ v h H', ExB a H H' → Bag H' a → HouseAt K H' v h → OkHouse h → h.1.length ≤ nb → (∀ b ∈ h.1, b.1.length ≤ nl) → FromNames h → Q v H'
theorem ok_hs {f fT fS : Addr} {fd fdT fdS : FuncData} {k : Nat} (F : Fun K "_law_house" "_law_house" sHouse f fd) (B : Bu mg) (DT : Df K mg "_law_take" sTake ["bag", "many"] fT fdT) (DS : Df K mg "_law_some" sSome ["bag", "most", "wide"] fS fdS)
    (GT : FnOk P w K mg base CX0 (k + 1) fT fdT ["bag", "many"] (spTake K)) (GS : FnOk P w K mg base CX0 (k + 2) fS fdS ["bag", "most", "wide"] (spSome K)) : FnOk P w K mg base CX0 (k + 3) f fd ["bag", "boxes", "locks", "wide"] (spHs K) := by
  refine F.ok scHouse (fun vs H Q E h => ?_) (fun cdv A outer s H vs Q E hr h => ?_)
  · obtain ⟨a, nb, nl, w, rfl, _⟩ := h
    rfl
  · obtain ⟨a, nb, nl, wd, rfl, hB, hb1, hb2, hl3, hw1, hw2, q⟩ := h
    refine ⟨_, pss_cons (ps_set (i := 4) scHouse.nd rfl (.inl rfl) (pe_lst pa_nil))
      (pss_cons (ps_for PassesOwn.never rfl (pi_range1 (by rfl) B.rng (pa_cons (pe_op op_add pe_int (pcall DT GT (hr.mono (by omega)) (pa_cons (pv 0) (pa_cons (pv 1) pa_nil)))) pa_nil)) (pg_name (i := 5) scHouse.nd rfl (.inl rfl))
        (pss_one (ps_expr (pe_bm PySem.F.plainAttrs_list PySem.F.slot_list_append PySem.F.type_list_append mt_append (pv 4) (pa_cons (pe_tup (pa_cons (pcall DS GS hr (pa_cons (pv 0) (pa_cons (pv 2) (pa_cons (pv 3) pa_nil))))
          (pa_cons (pcall DS GS hr (pa_cons (pv 0) (pa_cons (pe_ix ix_list (pe_lst (pa_cons pe_int (pa_cons pe_int (pa_cons pe_int (pa_cons pe_int pa_nil))))) (pcall DT GT (hr.mono (by omega)) (pa_cons (pv 0) (pa_cons pe_int pa_nil))) (fun _ _ => rfl)) (pa_cons (pv 3) pa_nil)))) pa_nil))) pa_nil)))))
      (pss_one (ps_ret (pe_tup (pa_cons (pe_callTy call_tupOf (by rfl) B.tup boot_tuple (pa_cons (pv 4) pa_nil))
        (pa_cons (pcall DS GS hr (pa_cons (pv 0) (pa_cons (pe_ix ix_list (pe_lst (pa_cons pe_int (pa_cons pe_int (pa_cons pe_int (pa_cons pe_int pa_nil))))) (pcall DT GT (hr.mono (by omega)) (pa_cons (pv 0) (pa_cons pe_int pa_nil))) (fun _ _ => rfl)) (pa_cons (pv 3) pa_nil)))) pa_nil)))))), ?_⟩
    refine q_asgL (xs := []) (el_lst ea_nil (by decide)) fun fl H0 nfl e0 hfl => ?_
    have nfa : fl ≠ a := fun z => by
      obtain ⟨da, na, xa, hBa, _⟩ := hB
      rw [z, hBa] at nfl
      cases nfl
    refine ⟨.ref a, rfl, vN nb, rfl, a, (nb : Int), rfl, hB.ex e0, by omega, fun r H1 r0 r1 x1 b1 => ?_⟩
    refine ⟨1, r, rfl, rfl, 1 + r, rfl, by omega, by omega, ?_⟩
    refine for_range (lo := 0) (n := (1 + r).toNat) (fun i σ' H' => ∃ (y : Option V) (ys : List V) (bs : List Box), σ' = [some (.ref a), some (vN nb), some (vN nl), some (vN wd), some (.ref fl), y] ∧ ExB a H H' ∧ Bag H' a ∧ H' fl = some (.lst ys) ∧ Paired (BoxAt K H') ys bs ∧ bs.length = i ∧ ∀ b ∈ bs, OkBox b ∧ b.1.length ≤ nl ∧ (∀ c ∈ b.1, c ∈ names12) ∧ ∀ c ∈ b.2, c ∈ names12)
      ⟨none, [], [], rfl, (ExB.of e0).trans x1, b1, x1 _ _ nfa hfl, .nil, rfl, by simp⟩ (fun i σ' H' hi hP => ?_) (fun σ' H' hP => ?_)
    · obtain ⟨y, ys, bs, rfl, x2, b2, h3, hp, hlen, hall⟩ := hP
      have hyl : ys.length = bs.length := paired_len hp
      refine ⟨.ref fl, rfl, .inl ⟨rfl, _, sq_of h3⟩, .ref a, rfl, vN nl, rfl, vN wd, rfl, a, nl, wd, rfl, b2, by omega, hw1, hw2, fun p1 cs1 H2 np1 x3 b3 h1 oc1 in1 => ?_⟩
      refine ⟨.ref a, rfl, ?_⟩
      refine menu (K := K) (cs := [1, 1, 3, 6]) (ea_cons ev_c (ea_cons ev_c (ea_cons ev_c (ea_cons ev_c ea_nil)))) rfl (by decide) rfl b3 fun c H3 hc x4 b4 => ?_
      have hc6 : ∃ m : Nat, c = (m : Int) ∧ m ≤ 6 := by
        simp only [List.mem_cons, List.mem_singleton, List.not_mem_nil, or_false] at hc
        rcases hc with rfl | rfl | rfl | rfl
        · exact ⟨1, rfl, by decide⟩
        · exact ⟨1, rfl, by decide⟩
        · exact ⟨3, rfl, by decide⟩
        · exact ⟨6, rfl, by decide⟩
      obtain ⟨m, rfl, hm6⟩ := hc6
      refine ⟨vN wd, rfl, a, m, wd, rfl, b4, hm6, hw1, hw2, fun p2 cs2 H4 np2 x5 b5 h2 oc2 in2 => ?_⟩
      refine ⟨by show 2 ≤ sizeLine; decide, fun p3 np3 => ?_⟩
      have e6 := Ex.new (o := .tup [.ref p1, .ref p2]) np3
      have np1a : p1 ≠ a := fun z => by
        obtain ⟨da, na, xa, hBa, _⟩ := b3
        rw [z, hBa] at h1
        cases h1
      have k1 : KeepT H' (upd H4 p3 (.tup [.ref p1, .ref p2])) := (((b2.keepT x3).trans (b3.keepT x4)).trans (b4.keepT x5)).trans (KeepT.ex e6)
      have h1' : upd H4 p3 (.tup [.ref p1, .ref p2]) p1 = some (.tup (cs1.map V.str)) := e6 _ _ (x5 _ _ np1a (x4 _ _ np1a h1))
      have h2' : upd H4 p3 (.tup [.ref p1, .ref p2]) p2 = some (.tup (cs2.map V.str)) := e6 _ _ h2
      have hfl' : upd H4 p3 (.tup [.ref p1, .ref p2]) fl = some (.lst ys) := e6 _ _ (x5 _ _ nfa (x4 _ _ nfa (x3 _ _ nfa h3)))
      have h3' : upd H4 p3 (.tup [.ref p1, .ref p2]) p3 = some (.tup [.ref p1, .ref p2]) := upd_same
      have xA : ExB a H (upd H4 p3 (.tup [.ref p1, .ref p2])) := ((x2.trans x3).trans x4).trans (x5.trans (ExB.of e6))
      have bA : Bag (upd H4 p3 (.tup [.ref p1, .ref p2])) a := b5.ex e6
      generalize upd H4 p3 (.tup [.ref p1, .ref p2]) = G at k1 h1' h2' hfl' h3' xA bA
      refine ⟨fl, ys, .ref p3, rfl, rfl, hfl', sz_lt (by omega), ?_⟩
      refine ⟨some _, ys ++ [.ref p3], bs ++ [(cs1, cs2)], rfl, fun b o nb hb => ?_, ?_, upd_same, ?_, by rw [List.length_append, List.length_singleton, hlen], fun b hb => ?_⟩
      · have : b ≠ fl := ne_of_none hb nfl
        rw [upd_ne this]
        exact xA b o nb hb
      · obtain ⟨d', n', xs', g1, g2, g3⟩ := bA
        refine ⟨d', n', xs', by rw [upd_ne (Ne.symm nfa)]; exact g1, ?_, g3⟩
        have : d' ≠ fl := fun z => by
          rw [z, hfl'] at g2
          have e := congrArg List.length (HO.lst.inj (Option.some.inj g2))
          rw [List.length_map, g3.1] at e
          omega
        rw [upd_ne this]
        exact g2
      · have kk := KeepT.lst (ys := ys ++ [.ref p3]) hfl'
        exact paired_app (paired_imp hp fun _ _ h => h.keep (k1.trans kk)) ⟨p3, p1, p2, rfl, keep_t kk (st_of h3'), keep_t kk (st_of h1'), keep_t kk (st_of h2')⟩
      · rcases List.mem_append.mp hb with h | h
        · exact hall b h
        · rw [List.mem_singleton.mp h]
          exact ⟨⟨oc1.mono hl3, oc2.mono hm6⟩, oc1.1, in1, in2⟩
    · obtain ⟨y, ys, bs, rfl, x2, b2, h3, hp, hlen, hall⟩ := hP
      have hbl : bs.length = (1 + r).toNat := hlen
      refine ⟨.ref fl, rfl, fl, ys, rfl, .inl ⟨sq_of h3, fun t nt => ?_⟩⟩
      have e4 := Ex.new (o := .tup ys) nt
      refine ⟨.ref a, rfl, ?_⟩
      refine menu (K := K) (cs := [0, 0, 1, 6]) (ea_cons ev_c (ea_cons ev_c (ea_cons ev_c (ea_cons ev_c ea_nil)))) rfl (by decide) rfl (b2.ex e4) fun c H3 hc x4 b4 => ?_
      have hc6 : ∃ m : Nat, c = (m : Int) ∧ m ≤ 6 := by
        simp only [List.mem_cons, List.mem_singleton, List.not_mem_nil, or_false] at hc
        rcases hc with rfl | rfl | rfl | rfl
        · exact ⟨0, rfl, by decide⟩
        · exact ⟨0, rfl, by decide⟩
        · exact ⟨1, rfl, by decide⟩
        · exact ⟨6, rfl, by decide⟩
      obtain ⟨m, rfl, hm6⟩ := hc6
      refine ⟨vN wd, rfl, a, m, wd, rfl, b4, hm6, hw1, hw2, fun p2 cs2 H4 np2 x5 b5 h2 oc2 in2 => ?_⟩
      refine ⟨by show 2 ≤ sizeLine; decide, fun p3 np3 => ?_⟩
      have e6 := Ex.new (o := .tup [.ref t, .ref p2]) np3
      have k0 : KeepT H' (upd H4 p3 (.tup [.ref t, .ref p2])) := (((KeepT.ex e4).trans ((b2.ex e4).keepT x4)).trans (b4.keepT x5)).trans (KeepT.ex e6)
      have k1 : KeepT (upd H' t (.tup ys)) (upd H4 p3 (.tup [.ref t, .ref p2])) := (((b2.ex e4).keepT x4).trans (b4.keepT x5)).trans (KeepT.ex e6)
      refine q (.ref p3) (bs, cs2) _ (((x2.trans (ExB.of e4)).trans x4).trans (x5.trans (ExB.of e6))) (b5.ex e6) ⟨p3, t, p2, rfl, st_of upd_same, ⟨ys, keep_t k1 (st_of upd_same), paired_imp hp fun _ _ h => h.keep k0⟩, st_of (e6 _ _ h2)⟩ ⟨?_, ?_, fun b hb => (hall b hb).1, oc2.mono hm6⟩ ?_ (fun b hb => (hall b hb).2.1) ⟨fun b hb => (hall b hb).2.2, in2⟩
      · show 1 ≤ bs.length
        omega
      · show bs.length ≤ 30
        omega
      · show bs.length ≤ nb
        omega
end
end Kw
set_option Elab.async false
set_option linter.all false
set_option maxRecDepth 100000
set_option maxHeartbeats 4000000
namespace Kw
open PySem PySem.Spec PyProof.Rows L2 Evl KwX NdefX LamX
abbrev sLCg : Stmt := topS 53
theorem scLCg : FnScope ["state", "number", "opened", "broken", "inside", "hand", "rows"] ["state", "number", "opened", "broken", "inside", "hand"] (defScope sLCg) := ⟨rfl, rfl, rfl, by decide +kernel, rfl, by decide +kernel, by decide +kernel⟩
abbrev sLOp : Stmt := topS 54
theorem scLOp : FnScope ["house", "state", "number", "force", "hand", "opened", "broken", "inside", "locks", "wanting", "more", "colour"] ["house", "state", "number", "force"] (defScope sLOp) := ⟨rfl, rfl, rfl, by decide +kernel, rfl, by decide +kernel, by decide +kernel⟩
/-! ### sorted lists again -/
theorem ris_nodup {cs : List Str} (h : Rising cs) : cs.Nodup := List.nodup_iff_pairwise_ne.mpr ((rising_pwS h).imp fun {a b} (z : ltS a b) (e : a = b) => by subst e; exact ltS_ir _ z)
theorem uni_self {cs : List Str} (h : Rising cs) : Uni cs [] cs := ⟨ris_nodup h, h, fun z => by rw [List.append_nil]⟩
theorem uniN_self {l : List Nat} (h : l.Pairwise (· < ·)) : UniN l [] l := ⟨h, fun z => by rw [List.append_nil]⟩
theorem uniL_self {cs : List Str} (h : Rising cs) : uniL cs [] = cs := (uni_self h).eq.symm
theorem uniN_nil {l : List Nat} (h : l.Pairwise (· < ·)) : uniN l [] = l := (uniN_self h).eq.symm
theorem uni_nil : uniL [] [] = [] := uniL_self fun i x y hx hy => by cases hx
section
variable {K : PySem.W.Frag} {σ : L2.St} {H H' : Hp} {ta tb te : TE}
/-- a new list, a new tuple, and what is so for it -/
def EvLF (te : TE) (σ : L2.St) (H : Hp) (xs : List V) (Φ : Prop) : Prop := ∀ H1, Ex H H1 → ∀ Q : VK, (∀ p H2, H1 p = none → Ex H1 H2 → H2 p = some (.lst xs) → Φ → Q (.ref p) H2) → te σ H1 Q
def EvUF (te : TE) (σ : L2.St) (H : Hp) (xs : List V) (Φ : Prop) : Prop := ∀ H1, Ex H H1 → ∀ Q : VK, (∀ p H2, H1 p = none → Ex H1 H2 → H2 p = some (.tup xs) → Φ → Q (.ref p) H2) → te σ H1 Q
theorem euf_tup {xs : List V} {Φ : Prop} (h : EvLF te σ H xs Φ) : EvUF (tCB (rTupOf K) (tCons te tNil)) σ H xs Φ := fun H1 e Q q => h H1 e _ fun p H2 np e2 hp f => ⟨p, xs, rfl, .inl ⟨sq_of hp, fun l hl => q l _ (fresh_back e2 hl) (e2.trans (Ex.new hl)) upd_same f⟩⟩
theorem el_srtS {a : Addr} {xs : List Str} (ha : Ev te σ H (.ref a)) (hs : SqL K H a (xs.map V.str) ∨ SqT K H a (xs.map V.str)) (hn : xs.length ≤ 50) (nd : xs.Nodup) : EvLF (tCB (fun vs H Q => rSortedS K vs H Q ∨ KwZ.rSortStT K vs H Q) (tCons te tNil)) σ H ((uniL xs []).map V.str) (Uni xs [] (uniL xs [])) := fun H1 e Q q => ha H1 e _ fun H2 e2 => by
  have key : ∀ ys : List Str, ys.Perm xs → sortedS ys = true → Uni xs [] ys := fun ys hp hst => by
    have n2 : ys.Nodup := hp.nodup_iff.mpr nd
    exact ⟨n2, rising_of_sorted n2 hst, fun z => by rw [List.append_nil]; exact hp.mem_iff⟩
  rcases hs with hs | hs
  · exact .inl ⟨a, xs, rfl, ex_l (e.trans e2) hs, by omega, fun ys p hp hst np => by
      have u3 := key ys hp hst
      have e3 := u3.eq
      subst e3
      exact q p _ (fresh_back e2 np) (e2.trans (Ex.new np)) upd_same u3⟩
  · exact .inr ⟨a, xs, rfl, ex_t (e.trans e2) hs, hn, fun ys p hp hst np => by
      have u3 := key ys hp hst
      have e3 := u3.eq
      subst e3
      exact q p _ (fresh_back e2 np) (e2.trans (Ex.new np)) upd_same u3⟩
theorem perm_nats {ms : List Int} {xs : List Nat} (hp : ms.Perm (xs.map fun (i : Nat) => (i : Int))) (hs : ms.Pairwise (· ≤ ·)) (nd : xs.Nodup) : ms = ((uniN xs []).map fun (i : Nat) => (i : Int)) ∧ UniN xs [] (uniN xs []) := by
  obtain ⟨ys, rfl⟩ := nats_back (ys := ms) (xs := xs) fun z => hp.mem_iff
  have hm : ∀ z, z ∈ ys ↔ z ∈ xs := fun z => by
    have := hp.mem_iff (a := (z : Int))
    rw [List.mem_map, List.mem_map] at this
    constructor
    · intro hz
      obtain ⟨i, hi, e⟩ := this.mp ⟨z, hz, rfl⟩
      have : i = z := by omega
      exact this ▸ hi
    · intro hz
      obtain ⟨i, hi, e⟩ := this.mpr ⟨z, hz, rfl⟩
      have : i = z := by omega
      exact this ▸ hi
  have nd2 : (ys.map fun (i : Nat) => (i : Int)).Nodup := hp.nodup_iff.mpr (List.pairwise_map.mpr (nd.imp fun {a b} h e => h (by omega)))
  have u : UniN xs [] ys := by
    refine ⟨?_, fun z => by rw [List.append_nil]; exact hm z⟩
    have h1 := List.pairwise_map.mp hs
    have h2 : ys.Nodup := (List.pairwise_map.mp nd2).imp fun h z => h (by rw [z])
    exact (h1.and h2).imp fun ⟨h3, h4⟩ => by omega
  have e := u.eq
  subst e
  exact ⟨rfl, u⟩
theorem el_srtN {a : Addr} {xs : List Nat} (ha : Ev te σ H (.ref a)) (hs : SqL K H a (xs.map vN) ∨ SqT K H a (xs.map vN)) (nd : xs.Nodup) : EvLF (tCB (fun vs H Q => rSortedI K vs H Q ∨ KwZ.rSortIT K vs H Q) (tCons te tNil)) σ H ((uniN xs []).map vN) (UniN xs [] (uniN xs [])) := fun H1 e Q q => ha H1 e _ fun H2 e2 => by
  rw [nats_int] at hs
  rcases hs with hs | hs
  · exact .inl ⟨a, _, rfl, ex_l (e.trans e2) hs, fun ys p hp hst np => by
      obtain ⟨e9, u9⟩ := perm_nats hp hst nd
      rw [e9]
      exact q p _ (fresh_back e2 np) (e2.trans (Ex.new np)) (by rw [nats_int]; exact upd_same) u9⟩
  · exact .inr ⟨a, _, rfl, ex_t (e.trans e2) hs, fun ys p hp hst np => by
      obtain ⟨e9, u9⟩ := perm_nats hp hst nd
      rw [e9]
      exact q p _ (fresh_back e2 np) (e2.trans (Ex.new np)) (by rw [nats_int]; exact upd_same) u9⟩
theorem el_srtNT {a : Addr} {xs : List Nat} (ha : Ev te σ H (.ref a)) (hs : SqT K H a (xs.map vN)) (nd : xs.Nodup) : EvLF (tCB (KwZ.rSortIT K) (tCons te tNil)) σ H ((uniN xs []).map vN) (UniN xs [] (uniN xs [])) := fun H1 e Q q => ha H1 e _ fun H2 e2 => by
  rw [nats_int] at hs
  exact ⟨a, _, rfl, ex_t (e.trans e2) hs, fun ys p hp hst np => by
    obtain ⟨e9, u9⟩ := perm_nats hp hst nd
    rw [e9]
    exact q p _ (fresh_back e2 np) (e2.trans (Ex.new np)) (by rw [nats_int]; exact upd_same) u9⟩
end
section
variable {P : Program} {w : World} {K : PySem.W.Frag} {mg : Str → Option Value} {base : Heap}
/-! ### _law_changed -/
def spLCg (K : PySem.W.Frag) : Sp := fun vs H Q _ => ∃ (st ha oa ba la : Addr) (lvs : List V) (s : KSt) (i : Nat) (o b n h : Addr) (os bs : List Nat) (is hs : List Str), vs = [.ref st, vN i, .ref o, .ref b, .ref n, .ref h] ∧ StA K H st ha oa ba la lvs s ∧ i < s.ly.length ∧ s.ly.length ≤ 100 ∧
  (SqL K H o (os.map vN) ∨ SqT K H o (os.map vN)) ∧ os.Nodup ∧ SqT K H b (bs.map vN) ∧ bs.Nodup ∧ (SqL K H n (is.map V.str) ∨ SqT K H n (is.map V.str)) ∧ is.Nodup ∧ is.length ≤ 50 ∧ (SqL K H h (hs.map V.str) ∨ SqT K H h (hs.map V.str)) ∧ hs.Nodup ∧ hs.length ≤ 50 ∧
  ∀ v H', Ex H H' → StAt K H' v ⟨uniL hs [], uniN os [], uniN bs [], s.ly.set i (uniL is [])⟩ → Uni hs [] (uniL hs []) → UniN os [] (uniN os []) → UniN bs [] (uniN bs []) → Uni is [] (uniL is []) → Q v H'
theorem ok_LCg {f  : Addr} {fd  : FuncData} {k : Nat} (F : Fun K "_law_changed" "_law_changed" sLCg f fd) (B : Bu mg) : FnOk P w K mg base CX0 (k + 1) f fd ["state", "number", "opened", "broken", "inside", "hand"] (spLCg K) := by
  refine F.ok scLCg (fun vs H Q E h => ?_) (fun cdv A outer s H vs Q E hr h => ?_)
  · obtain ⟨st, ha, oa, ba, la, lvs, s, i, o, b, n, h, os, bs, is, hs, rfl, _⟩ := h
    rfl
  · obtain ⟨st, ha, oa, ba, la, lvs, s, i, o, b, n, h, os, bs, is, hs, rfl, hS, hi, h100, ho, ndo, hb, ndb, hn, ndn, ln, hh, ndh, lh, q⟩ := h
    have sq_ex : ∀ {a : Addr} {xs : List V} {G G' : Hp}, Ex G G' → (SqL K G a xs ∨ SqT K G a xs) → (SqL K G' a xs ∨ SqT K G' a xs) := fun e z => z.elim (fun z => .inl (ex_l e z)) (fun z => .inr (ex_t e z))
    refine ⟨_, (pss_cons (ps_set (i := 6) scLCg.nd rfl (.inl rfl) (pe_op op_catA (pe_op op_catA (pe_slice sl_tupA (pe_ix ix_tup (pv 0) pe_int (fun _ _ => rfl)) po_none (po_some (pv 1))) (pe_tup (pa_cons (pe_callTy call_tupOf (by rfl) B.tup boot_tuple (pa_cons (pe_callB (KwZ.cr_or cr_sortedS KwZ.cr_sortStT) (by rfl) B.srt PyProof.Rows.boot_sorted (pa_cons (pv 4) pa_nil)) pa_nil)) pa_nil))) (pe_slice sl_tupA (pe_ix ix_tup (pv 0) pe_int (fun _ _ => rfl)) (po_some (pe_op op_add (pv 1) pe_int)) po_none)))
      (pss_one (ps_ret (pe_tup (pa_cons (pe_callTy call_tupOf (by rfl) B.tup boot_tuple (pa_cons (pe_callB (KwZ.cr_or cr_sortedS KwZ.cr_sortStT) (by rfl) B.srt PyProof.Rows.boot_sorted (pa_cons (pv 5) pa_nil)) pa_nil)) (pa_cons (pe_callTy call_tupOf (by rfl) B.tup boot_tuple (pa_cons (pe_callB (KwZ.cr_or cr_sortedI KwZ.cr_sortIT) (by rfl) B.srt PyProof.Rows.boot_sorted (pa_cons (pv 2) pa_nil)) pa_nil)) (pa_cons (pe_callTy call_tupOf (by rfl) B.tup boot_tuple (pa_cons (pe_callB KwZ.cr_sortIT (by rfl) B.srt PyProof.Rows.boot_sorted (pa_cons (pv 3) pa_nil)) pa_nil)) (pa_cons (pv 6) pa_nil)))))))), ?_⟩
    have hlv : lvs.length = s.ly.length := paired_len hS.ls
    have t3 : Ev (tOp (rIxT K) (tVar 0) (tC (.int 3))) [some (.ref st), some (vN i), some (.ref o), some (.ref b), some (.ref n), some (.ref h), none] H (.ref la) := ev_op (ev_var (v := .ref st) rfl) ev_c (rv_ixT (K := K) hS.t at4_3)
    have s1 := ep_slT (K := K) (tl := tNoPart) (th := tPart (tVar 1)) (lo := none) (hi := some (i : Int)) t3 eo_none (eo_some (ev_var (v := vN i) rfl)) hS.l
    rw [cut_take] at s1
    refine s1 H (Ex.refl H) _ fun v1 H1 e1 ⟨p1, hv1, hp1⟩ => ?_
    subst hv1
    refine (euf_tup (K := K) (el_srtS (K := K) (ev_var (v := .ref n) rfl) hn ln ndn)) H1 e1 _ fun q1 H2 nq1 e2 hq1 un => ⟨by show 1 ≤ sizeLine; decide, fun p2 np2 => ?_⟩
    have f2 := Ex.new (o := .tup [.ref q1]) np2
    refine catT (K := K) (ex_t (e2.trans f2) hp1) (st_of upd_same) (by rw [List.length_take]; show _ + 1 ≤ _; omega) fun v3 H3 e3 ⟨p3, hv3, hp3⟩ => ?_
    subst hv3
    have E3 := ((e1.trans e2).trans f2).trans e3
    have s2 := ep_slT (K := K) (th := tNoPart) (tl := tPart (tOp (rI0 fun i j => .int (i + j)) (tVar 1) (tC (.int 1)))) (lo := some ((i + 1 : Nat) : Int)) (hi := none) t3 (eo_some (ev_is (ev_op (ev_var (v := vN i) rfl) ev_c rv_I0) (by rw [Int.natCast_add]; rfl))) eo_none hS.l
    rw [cut_drop] at s2
    refine s2 H3 E3 _ fun v4 H4 e4 ⟨p4, hv4, hp4⟩ => ?_
    subst hv4
    refine catT (K := K) (ex_t e4 hp3) hp4 (by rw [List.length_append, List.length_take, List.length_drop]; show _ + 1 + _ ≤ _; omega) fun v5 H5 e5 ⟨p5, hv5, hp5⟩ => ?_
    subst hv5
    have eset : lvs.take i ++ [V.ref q1] ++ lvs.drop (i + 1) = lvs.set i (.ref q1) := by
      rw [List.set_eq_take_append_cons_drop, if_pos (by omega), List.append_assoc]
      rfl
    rw [eset] at hp5
    have E5 := (E3.trans e4).trans e5
    have hq5 : SqT K H5 q1 ((uniL is []).map V.str) := st_of ((((f2.trans e3).trans e4).trans e5) _ _ hq1)
    -- the state
    refine (euf_tup (K := K) (σ := [some (.ref st), some (vN i), some (.ref o), some (.ref b), some (.ref n), some (.ref h), some (.ref p5)]) (el_srtS (K := K) (ev_var (v := .ref h) rfl) hh lh ndh)) H5 E5 _ fun t1 H6 _ e6 ht1 uh => ?_
    refine (euf_tup (K := K) (σ := [some (.ref st), some (vN i), some (.ref o), some (.ref b), some (.ref n), some (.ref h), some (.ref p5)]) (el_srtN (K := K) (ev_var (v := .ref o) rfl) ho ndo)) H6 (E5.trans e6) _ fun t2 H7 _ e7 ht2 uo => ?_
    refine (euf_tup (K := K) (σ := [some (.ref st), some (vN i), some (.ref o), some (.ref b), some (.ref n), some (.ref h), some (.ref p5)]) (el_srtNT (K := K) (ev_var (v := .ref b) rfl) hb ndb)) H7 ((E5.trans e6).trans e7) _ fun t4 H8 _ e8 ht4 ub => ?_
    refine ⟨.ref p5, rfl, by show 4 ≤ sizeLine; decide, fun r nr => ?_⟩
    have f9 := Ex.new (o := .tup [.ref t1, .ref t2, .ref t4, .ref p5]) nr
    have E9 := ((e6.trans e7).trans e8).trans f9
    exact q _ _ (E5.trans E9) ⟨r, t1, t2, t4, p5, lvs.set i (.ref q1), rfl, st_of upd_same, st_of (((e7.trans e8).trans f9) _ _ ht1), st_of ((e8.trans f9) _ _ ht2), st_of (f9 _ _ ht4), ex_t E9 hp5, cols_set (hS.ls.keep (KeepT.ex (E5.trans E9))) (ex_t E9 hq5)⟩ uh uo ub un
end
end Kw
set_option Elab.async false
set_option linter.all false
set_option maxRecDepth 100000
set_option maxHeartbeats 4000000
namespace Kw
open PySem PySem.Spec PyProof.Rows L2 Evl KwX NdefX LamX
/-- states as they come: all rises, all is of the names -/
structure SOk (h : House) (s : KSt) : Prop where
  ok : OkK h s
  c : OkC s
  hr : Rising s.hand
  ou : s.op.Pairwise (· < ·)
  bu : s.br.Pairwise (· < ·)
  bb : ∀ i ∈ s.br, i < h.1.length
  lr : ∀ ks ∈ s.ly, Rising ks
  nm : ∀ c ∈ s.hand, c ∈ names12
  ln : ∀ ks ∈ s.ly, ∀ c ∈ ks, c ∈ names12
abbrev Due := Out ⊕ KSt
def DueAt (K : PySem.W.Frag) (H : Hp) (v : V) : Due → Prop
  | .inl o => OkO o ∧ Dp K H v (.list (dataO o))
  | .inr s => StAt K H v s
theorem DueAt.ex {K : PySem.W.Frag} {H H' : Hp} {v : V} {d : Due} (e : Ex H H') (h : DueAt K H v d) : DueAt K H' v d := by
  cases d with
  | inl o => exact ⟨h.1, dp_ex e _ _ h.2⟩
  | inr s => exact StAt.keep (KeepT.ex e) h
def locksF (h : House) (s : KSt) (i : Nat) (force : Bool) : List Str := if (decide (i ∈ s.br) || force) = true then [] else (bx h.1 i).1
noncomputable def dueO (h : House) (s : KSt) (i : Nat) (force : Bool) : Due := if i ∈ s.op then .inl (.cls 10) else match missing (locksF h s i force) s.hand with
  | some c => .inl (.locked c)
  | none => .inr (liftS s i (if force then uniN s.br [i] else s.br))
theorem miss_head {hs : List Str} : ∀ ls : List Str, (ls.filter fun c => !decide (c ∈ hs)).head? = missing ls hs
  | [] => rfl
  | a :: r => by
    show _ = (if a ∈ hs then missing r hs else some a)
    by_cases h : a ∈ hs
    · rw [if_pos h, List.filter_cons, if_neg (by rw [decide_eq_true h]; decide), miss_head r]
    · rw [if_neg h, List.filter_cons, if_pos (by rw [decide_eq_false h]; rfl)]
      rfl
theorem miss_in {hs : List Str} {c : Str} : ∀ {ls : List Str}, missing ls hs = some c → c ∈ ls
  | [], h => by cases h
  | a :: r, h => by
    have h : (if a ∈ hs then missing r hs else some a) = some c := h
    split at h
    · exact List.mem_cons_of_mem _ (miss_in h)
    · rw [Option.some.inj h]
      exact List.mem_cons_self ..
theorem lyAt_mem {s : KSt} {i : Nat} (h : i < s.ly.length) : lyAt s i ∈ s.ly := by
  unfold lyAt
  rw [List.getD_eq_getElem?_getD, List.getElem?_eq_getElem h]
  exact List.getElem_mem h
section
variable {P : Program} {w : World} {K : PySem.W.Frag} {σ : L2.St} {H H' : Hp} {te ta tb : TE}
/-- sorted(set(x)), a list -/
theorem uni_lst {v : V} {xs zs : List Str} {Q : VK} (hv : IsT K ((xs ++ zs).map V.str) v H) (hn : xs.length + zs.length ≤ 50) (q : ∀ l H2, Ex H H2 → H2 l = some (.lst ((uniL xs zs).map V.str)) → Uni xs zs (uniL xs zs) → Q (.ref l) H2) : tCB (KwS.rSortTx P w) (tCons (tCB (KwS.rSetTx K P w) (tCons (tC v) tNil)) tNil) σ H Q := by
  obtain ⟨p, rfl, hp⟩ := hv
  refine ⟨p, xs ++ zs, rfl, hp, by rw [List.length_append]; exact hn, fun s hs => ⟨s, xs ++ zs, rfl, upd_same, by rw [List.length_append]; exact hn, fun ys l nd hm hst hl => ?_⟩⟩
  have u : Uni xs zs ys := ⟨nd, rising_of_sorted nd hst, hm⟩
  have e := u.eq
  subst e
  exact q l _ ((Ex.new hs).trans (Ex.new hl)) upd_same u
/-- tuple(sorted(set(x))), of numbers -/
theorem uniN_tup {v : V} {xs zs : List Nat} {Q : VK} (hv : IsT K ((xs ++ zs).map vN) v H) (hn : xs.length + zs.length ≤ 50) (q : ∀ l H2, Ex H H2 → SqT K H2 l ((uniN xs zs).map vN) → UniN xs zs (uniN xs zs) → Q (.ref l) H2) : tCB (rTupOf K) (tCons (tCB (KwZ.rSortSI P w) (tCons (tCB (KwZ.rSetIT K P w) (tCons (tC v) tNil)) tNil)) tNil) σ H Q := by
  obtain ⟨p, rfl, hp⟩ := hv
  rw [nats_int] at hp
  refine ⟨p, _, rfl, hp, by rw [List.length_map, List.length_append]; exact hn, fun t nt => ⟨t, _, rfl, upd_same, by rw [List.length_map, List.length_append]; exact hn, fun ys l nd hm hs nl => ?_⟩⟩
  obtain ⟨ms, rfl⟩ := nats_back hm
  refine ⟨l, _, rfl, .inl ⟨sq_of upd_same, fun u nu => ?_⟩⟩
  have hu : UniN xs zs ms := by
    refine ⟨?_, fun z => ?_⟩
    · have h1 := List.pairwise_map.mp hs
      have h2 : ms.Nodup := (List.pairwise_map.mp nd).imp fun h z => h (by rw [z])
      exact (h1.and h2).imp fun ⟨h3, h4⟩ => by omega
    · have := hm (z : Int)
      rw [List.mem_map, List.mem_map] at this
      constructor
      · intro hz
        obtain ⟨i, hi, e⟩ := this.mp ⟨z, hz, rfl⟩
        have : i = z := by omega
        exact this ▸ hi
      · intro hz
        obtain ⟨i, hi, e⟩ := this.mpr ⟨z, hz, rfl⟩
        have : i = z := by omega
        exact this ▸ hi
  have e := hu.eq
  subst e
  exact q u _ (((Ex.new nt).trans (Ex.new nl)).trans (Ex.new nu)) (by rw [nats_int]; exact st_of upd_same) hu
theorem rep01_cat {p1 ba : Addr} {xs : List Nat} {i : Nat} {force : Bool} {Q : VK} (hb : SqT K H ba (xs.map vN)) (h1 : SqT K H p1 [vN i]) (hl : xs.length ≤ 1000) (q : ∀ v H2, Ex H H2 → IsT K ((xs ++ (if force = true then [i] else [])).map vN) v H2 → Q v H2) : KwX.rRep01 K (.ref p1) (.int (if force = true then 1 else 0)) H (fun y H1 => rCatA K (.ref ba) y H1 Q) := by
  refine ⟨p1, [vN i], force, rfl, rfl, h1, by simp, fun hz => ?_, fun hz p np => ?_⟩
  · refine catT (K := K) hb h1 (by rw [List.length_map]; show _ + 1 ≤ _; omega) fun v H2 e2 hv => q v H2 e2 ?_
    rw [if_pos hz, List.map_append]
    exact hv
  · refine catT (K := K) (ex_t (Ex.new np) hb) (st_of upd_same) (by rw [List.length_map]; show _ + 0 ≤ _; omega) fun v H2 e2 hv => q v H2 ((Ex.new np).trans e2) ?_
    rw [if_neg (by rw [hz]; decide), List.append_nil]
    rw [List.append_nil] at hv
    exact hv
/-- [c for c in cs if ..] -/
theorem el_strF {i j : Nat} {t : Addr} {r : List Str} {tt : TT} (hi : σ[i]? = some (some (.ref t))) (ht : SqT K H t (r.map V.str)) (hr : r.length ≤ 1000) (p : Str → Bool) (hw : ∀ v, wipe ((wipe σ [j]).set j (some v)) [j] = wipe σ [j] ∧ ((wipe σ [j]).set j (some v))[j]? = some (some v)) (hp : ∀ x H1, Ex H H1 → x ∈ r → EvT tt ((wipe σ [j]).set j (some (.str x))) H1 (p x)) : EvL (tLc (iTup K (tVar i)) (gName j) tt (tVar j) [j]) σ H ((r.filter p).map V.str) := by
  refine el_lc (ew_tup (K := K) (ev_var hi) ht) (by rw [List.length_map]; omega) (fun k => p (r.getD k "")) (fun k => .str (r.getD k "")) (by rw [List.length_map]; exact filter_range_map r "" p V.str) (fun k x H1 H2 Q e hk hy q => ?_)
  obtain ⟨rfl, hx⟩ := hy
  rw [List.getElem?_map] at hx
  obtain ⟨z, hz, rfl⟩ := Option.map_eq_some_iff.mp hx
  have hg : r.getD k "" = z := by rw [List.getD_eq_getElem?_getD, hz]; rfl
  refine q _ _ (Ex.refl _) (hw (.str z)).1 (by rw [hg]; exact hp z H2 e (List.mem_of_getElem? hz)) fun _ => by rw [hg]; exact ev_var (hw (.str z)).2
theorem ev_neLs {l : Addr} {xs : List Str} {i : Nat} (hok : ColsOk xs) (h0 : σ[i]? = some (some (.ref l))) (h : H l = some (.lst (xs.map V.str))) : Ev (tOp (rNeD K) (tVar i) (tLst tNil)) σ H (.bl (!decide (xs = []))) := fun H1 e Q q => ⟨.ref l, h0, Nat.zero_le _, fun c nc => by
  refine rv_neDp (K := K) (d := .list (xs.map PyData.str)) (e := .list []) (.lst (sq_of ((Ex.new nc) _ _ (e _ _ h))) (dpA_strs xs)) (.lst (sq_of upd_same) .nil) (shaped_lS fun c hc => strOk_low (colB_low (hok c hc)).1) shaped_nilL _ (Ex.refl _) _ fun H4 e4 => ?_
  rw [eqv_nilL]
  have : decide (xs.map PyData.str = []) = decide (xs = []) := by cases xs <;> rfl
  rw [this]
  exact q H4 ((Ex.new nc).trans e4)⟩
end
section
variable {P : Program} {w : World} {K : PySem.W.Frag} {mg : Str → Option Value} {base : Heap}
/-! ### _law_opened -/
def spLOp (K : PySem.W.Frag) : Sp := fun vs H Q _ => ∃ (hv : V) (h : House) (st ha oa ba la : Addr) (lvs : List V) (s : KSt) (i : Nat) (force : Bool), vs = [hv, .ref st, vN i, .bl force] ∧ HouseAt K H hv h ∧ StA K H st ha oa ba la lvs s ∧ SOk h s ∧ i < h.1.length ∧
  ∀ v H', Ex H H' → DueAt K H' v (dueO h s i force) → Q v H'
theorem ok_LOp {f fLCg : Addr} {fd fdLCg : FuncData} {k : Nat} (F : Fun K "_law_opened" "_law_opened" sLOp f fd) (DLCg : Df K mg "_law_changed" sLCg ["state", "number", "opened", "broken", "inside", "hand"] fLCg fdLCg) (GLCg : FnOk P w K mg base CX0 (k + 1) fLCg fdLCg ["state", "number", "opened", "broken", "inside", "hand"] (spLCg K)) (B : Bu mg) : FnOk P w K mg base CX0 (k + 2) f fd ["house", "state", "number", "force"] (spLOp K) := by
  refine F.ok scLOp (fun vs H Q E h => ?_) (fun cdv A outer s H vs Q E hr h => ?_)
  · obtain ⟨hv, h, st, ha, oa, ba, la, lvs, s, i, force, rfl, _⟩ := h
    rfl
  · obtain ⟨hv, h, st, ha, oa, ba, la, lvs, s, i, force, rfl, hA, hS, ok, hi, q⟩ := h
    have hu64 := hr.units
    obtain ⟨hva, hba, hka, rfl, hA1, ⟨bvs, hb1, hb2⟩, hA3⟩ := hA
    have o40 := ok.ok.ol
    have b40 := ok.ok.bl
    have h40 := ok.ok.hl
    have ll := ok.ok.ll
    have h30 := ok.ok.oh.2.1
    refine ⟨_, (pss_cons (ps_asg (pv 1) (pg_tup rfl (pgs_cons (pg_name (i := 4) scLOp.nd rfl (.inr rfl)) (pgs_cons (pg_name (i := 5) scLOp.nd rfl (.inl rfl)) (pgs_cons (pg_name (i := 6) scLOp.nd rfl (.inl rfl)) (pgs_cons (pg_name (i := 7) scLOp.nd rfl (.inl rfl)) pgs_nil))))))
      (pss_cons (ps_if (pt_cmpR op_in_seq (pv 2) (pv 5) (by rfl)) (pss_one (ps_ret (pe_lst (pa_cons pe_str (pa_cons pe_bl pa_nil))))) pss_nil)
      (pss_cons (ps_set (i := 8) scLOp.nd rfl (.inl rfl) (pe_ifExp (PW.pt (pw_or (pt_cmpR op_in_seq (pv 2) (pv 6) (by rfl)) (pw_or1 (pt_val (pv 3))))) (pe_tup pa_nil) (pe_ix ix_tup (pe_ix ix_tup (pe_ix ix_tup (pv 0) pe_int (fun _ _ => rfl)) (pv 2) (fun _ _ => rfl)) pe_int (fun _ _ => rfl))))
      (pss_cons (ps_setLc (i := 9) (own := [("colour", 11)]) (g := (gName 11)) (tt := (tTest (tOp (rIn K true) (tVar 11) (tVar 4)))) (te := (tVar 11)) rfl scLOp.nd rfl rfl (sw_true rfl rfl rfl (by decide +kernel)) (pi_tup (pv 8)) (blkOk_by (N := ["house", "state", "number", "force", "hand", "opened", "broken", "inside", "locks", "wanting", "more", "colour"]) (sc := defScope sLOp) (by decide +kernel)) (fun _ _ _ _ _ => (pg_name (i := 11) scLOp.nd rfl (.inl rfl))) (fun _ _ _ _ _ => (pts_one (pt_cmpR op_notIn_seq (pv 11) (pv 4) (by rfl)))) (fun _ _ _ _ _ => (pv 11)))
      (pss_cons (ps_if (pt_cmpR (op_neD hu64) (pv 9) (pe_lst pa_nil) (nomark _)) (pss_one (ps_ret (pe_lst (pa_cons pe_str (pa_cons (pe_ix ix_list (pv 9) pe_int (fun _ _ => rfl)) (pa_cons pe_bl pa_nil)))))) pss_nil)
      (pss_cons (ps_set (i := 10) scLOp.nd rfl (.inl rfl) (pe_callTy call_tupOf (by rfl) B.tup boot_tuple (pa_cons (pe_callB (KwZ.cr_sortSI rfl) (by rfl) B.srt PyProof.Rows.boot_sorted (pa_cons (pe_callTy (KwZ.cr_setIT rfl) (by rfl) B.set PyProof.Rows.boot_set (pa_cons (pe_op op_catA (pv 6) (pe_op KwX.op_rep01 (pe_tup (pa_cons (pv 2) pa_nil)) (pe_callTy call_int1 (by rfl) B.int boot_int (pa_cons (pv 3) pa_nil)))) pa_nil)) pa_nil)) pa_nil)))
      (pss_one (ps_ret (pcall DLCg GLCg (hr.mono (by omega)) (pa_cons (pv 1) (pa_cons (pv 2) (pa_cons (pe_op op_catA (pv 5) (pe_tup (pa_cons (pv 2) pa_nil))) (pa_cons (pv 10) (pa_cons (pe_tup pa_nil) (pa_cons (pe_callB (KwS.cr_sortTx rfl) (by rfl) B.srt PyProof.Rows.boot_sorted (pa_cons (pe_callTy (KwS.cr_setTx rfl) (by rfl) B.set PyProof.Rows.boot_set (pa_cons (pe_op op_catA (pv 4) (pe_ix ix_tup (pv 7) (pv 2) (fun _ _ => rfl))) pa_nil)) pa_nil)) pa_nil))))))))))))))), ?_⟩
    refine ⟨.ref st, rfl, st, _, rfl, hS.t, rfl, .ref ha, _, rfl, .ref oa, _, rfl, .ref ba, _, rfl, .ref la, _, rfl, rfl, ?_⟩
    refine q_when (σ := [some (.ref hva), some (.ref st), some (vN i), some (.bl force), some (.ref ha), some (.ref oa), some (.ref ba), some (.ref la), none, none, none, none]) (b := decide (i ∈ s.op)) (et_is (et_test (ev_op (ev_var (v := vN i) rfl) (ev_var (v := .ref oa) rfl) (rv_inT (K := K) (neg := false) hS.o rfl (flat_nats _)))) (inV_nat _ _)) (fun hb H1 e1 => ?_) (fun hb H1 e1 => ?_)
    · have hm := of_decide_eq_true hb
      exact (ed_lst (K := K) (da_cons ed_str (da_cons ed_bl da_nil)) (by show 2 ≤ 1000; decide)) H1 (Ex.refl H1) _ fun v H2 e2 hv => q v H2 (e1.trans e2) (by unfold dueO; rw [if_pos hm]; exact ⟨by show 10 < 14; decide, hv⟩)
    have hno := of_decide_eq_false hb
    -- locks
    have hL : EvP (tIf (tOr (tTest (tOp (rIn K false) (tVar 2) (tVar 6))) (tB (tVar 3))) (tTup tNil) (tOp (rIxT K) (tOp (rIxT K) (tOp (rIxT K) (tVar 0) (tC (.int 0))) (tVar 2)) (tC (.int 0)))) [some (.ref hva), some (.ref st), some (vN i), some (.bl force), some (.ref ha), some (.ref oa), some (.ref ba), some (.ref la), none, none, none, none] H1 (IsT K ((locksF h s i force).map V.str)) := fun G1 g1 Q1 q1 => by
      refine (et_or (b := force) (et_is (et_test (ev_op (ev_var (v := vN i) rfl) (ev_var (v := .ref ba) rfl) (rv_inT (K := K) (neg := false) (ex_t e1 hS.b) rfl (flat_nats _)))) (inV_nat i s.br)) fun _ => et_B (ev_var (v := .bl force) rfl)) G1 g1 _ fun G2 g2 => ?_
      unfold locksF at q1
      by_cases z : (decide (i ∈ s.br) || force) = true
      · rw [if_pos z] at q1 ⊢
        refine ⟨Nat.zero_le _, fun p np => q1 _ _ (g2.trans (Ex.new np)) ⟨p, rfl, st_of upd_same⟩⟩
      · rw [if_neg z] at q1 ⊢
        obtain ⟨bv, hbv, ⟨b1, bl, bk, rfl, f1, f2, f3⟩⟩ := paired_get2 hb2 (bx_get hi)
        have eG := (e1.trans g1).trans g2
        exact ⟨.ref hva, rfl, hva, _, 0, .ref hba, rfl, rfl, ex_t eG hA1, at0, vN i, rfl, hba, bvs, (i : Int), .ref b1, rfl, rfl, ex_t eG hb1, atI_nat hbv, b1, _, 0, .ref bl, rfl, rfl, ex_t eG f1, at0, q1 _ G2 g2 ⟨bl, rfl, ex_t eG f2⟩⟩
    refine hL H1 (Ex.refl H1) _ fun vl H2 e2 ⟨lp, hvl, hlp⟩ => ?_
    subst hvl
    have E2 := e1.trans e2
    have hlc : ColsOk (locksF h s i force) := fun c hc => by
      unfold locksF at hc
      split at hc
      · cases hc
      · exact (ok.ok.oh.2.2.1 _ (List.mem_of_getElem? (bx_get hi))).1.2.1 c hc
    have hl3 : (locksF h s i force).length ≤ 3 := by
      unfold locksF
      split
      · exact Nat.zero_le _
      · exact (ok.ok.oh.few.bx i).1
    refine q_asgL (σ := [some (.ref hva), some (.ref st), some (vN i), some (.bl force), some (.ref ha), some (.ref oa), some (.ref ba), some (.ref la), some (.ref lp), none, none, none]) (el_strF (K := K) (i := 8) (j := 11) rfl hlp (by omega) (fun c => !decide (c ∈ s.hand)) (fun v => ⟨rfl, rfl⟩) (fun x G1 g1 hx => et_is (et_test (ev_op (ev_var (v := .str x) rfl) (ev_var (v := .ref ha) rfl) (rv_niT (K := K) (ex_t (E2.trans g1) hS.h) rfl (flat_strs _)))) (by rw [inV_str]))) fun wp H3 nw e3 hwp => ?_
    have E3 := E2.trans e3
    have hmh := miss_head (hs := s.hand) (locksF h s i force)
    refine q_when (σ := [some (.ref hva), some (.ref st), some (vN i), some (.bl force), some (.ref ha), some (.ref oa), some (.ref ba), some (.ref la), some (.ref lp), some (.ref wp), none, none]) (b := !decide ((locksF h s i force).filter (fun c => !decide (c ∈ s.hand)) = [])) (et_test (ev_neLs (K := K) (fun c hc => hlc c (List.mem_filter.mp hc).1) rfl hwp)) (fun hb H4 e4 => ?_) (fun hb H4 e4 => ?_)
    · cases hf : (locksF h s i force).filter (fun c => !decide (c ∈ s.hand)) with
      | nil => rw [hf] at hb; cases hb
      | cons c r =>
        rw [hf] at hmh hwp
        have hm : missing (locksF h s i force) s.hand = some c := hmh.symm
        exact (ed_lst (K := K) (σ := [some (.ref hva), some (.ref st), some (vN i), some (.bl force), some (.ref ha), some (.ref oa), some (.ref ba), some (.ref la), some (.ref lp), some (.ref wp), none, none]) (da_cons ed_str (da_cons (ed_of (ev_op (ev_var (v := .ref wp) rfl) ev_c (rv_ixL (K := K) (sq_of (e4 _ _ hwp)) (atI_nat (j := 0) rfl))) (.str c)) (da_cons ed_bl da_nil))) (by show 3 ≤ 1000; decide)) H4 (Ex.refl H4) _ fun v H5 e5 hv => q v H5 ((E3.trans e4).trans e5) (by
          unfold dueO
          rw [if_neg hno, hm]
          exact ⟨strOk_low (colB_low (hlc c (miss_in hm))).1, hv⟩)
    have hmn : missing (locksF h s i force) s.hand = none := by
      have : (locksF h s i force).filter (fun c => !decide (c ∈ s.hand)) = [] := by
        cases hf : (locksF h s i force).filter (fun c => !decide (c ∈ s.hand)) with
        | nil => rfl
        | cons c r => rw [hf] at hb; cases hb
      rw [this] at hmh
      exact hmh.symm
    have E4 := E3.trans e4
    -- more
    refine ⟨.ref ba, rfl, vN i, rfl, by show 1 ≤ sizeLine; decide, fun p1 np1 => ?_⟩
    have f5 := Ex.new (o := .tup [vN i]) np1
    refine ⟨.bl force, rfl, .inr ⟨force, rfl, ?_⟩⟩
    refine rep01_cat (K := K) (ex_t (E4.trans f5) hS.b) (st_of upd_same) (by omega) fun v6 H6 e6 hv6 => ?_
    have hif : (if force = true then [i] else []).length ≤ 1 := by split <;> simp
    refine uniN_tup (P := P) (w := w) (K := K) (σ := []) hv6 (by omega) fun mp H7 e7 hmp um => ?_
    have E7 := ((E4.trans f5).trans e6).trans e7
    refine ⟨.ref st, rfl, vN i, rfl, .ref oa, rfl, vN i, rfl, by show 1 ≤ sizeLine; decide, fun p3 np3 => ?_⟩
    have f8 := Ex.new (o := .tup [vN i]) np3
    refine catT (K := K) (ys := [i].map vN) (ex_t (E7.trans f8) hS.o) (st_of upd_same) (by rw [List.length_map]; show _ + 1 ≤ _; omega) fun v9 H9 e9 ⟨p4, hv9, hp4⟩ => ?_
    subst hv9
    rw [← List.map_append] at hp4
    have E9 := (E7.trans f8).trans e9
    refine ⟨.ref mp, rfl, Nat.zero_le _, fun c nc => ?_⟩
    have f10 := Ex.new (o := .tup []) nc
    have E10 := E9.trans f10
    obtain ⟨ip, hip, hips⟩ := cols_get hS.ls (i := i) (by omega)
    refine ⟨.ref ha, rfl, .ref la, rfl, vN i, rfl, la, lvs, (i : Int), .ref ip, rfl, rfl, ex_t E10 hS.l, atI_nat hip, ?_⟩
    have l6 := ok.ok.at6 i
    refine catT (K := K) (ex_t E10 hS.h) (ex_t E10 hips) (by rw [List.length_map, List.length_map]; show _ + (lyAt s i).length ≤ _; omega) fun v11 H11 e11 hv11 => ?_
    rw [← List.map_append] at hv11
    refine uni_lst (P := P) (w := w) (K := K) (σ := []) (xs := s.hand) (zs := lyAt s i) hv11 (by omega) fun l H12 e12 hl12 ul => ?_
    have E12 := (E10.trans e11).trans e12
    have ndo : (s.op ++ [i]).Nodup := by
      refine List.nodup_append.mpr ⟨List.nodup_iff_pairwise_ne.mpr (ok.ou.imp fun {a b} z => Nat.ne_of_lt z), by simp, fun a ha b hb e => ?_⟩
      have : b = i := by simpa using hb
      exact hno (by rw [← this, ← e]; exact ha)
    have nlen : (uniL s.hand (lyAt s i)).length ≤ 12 := nodup_len (l := names12) ul.1 fun y hy => by
      rcases List.mem_append.mp ((ul.2.2 y).mp hy) with z | z
      · exact ok.nm y z
      · exact ok.ln _ (lyAt_mem (by omega)) y z
    refine ⟨st, ha, oa, ba, la, lvs, s, i, p4, mp, c, l, s.op ++ [i], uniN s.br (if force = true then [i] else []), [], uniL s.hand (lyAt s i), rfl, hS.keep (KeepT.ex E12), by omega, by omega, .inr (ex_t ((f10.trans e11).trans e12) hp4), ndo, ex_t ((((f8.trans e9).trans f10).trans e11).trans e12) hmp, List.nodup_iff_pairwise_ne.mpr (um.1.imp fun {a b} z => Nat.ne_of_lt z), .inr (st_of ((e11.trans e12) _ _ upd_same)), List.nodup_nil, Nat.zero_le _, .inl (sq_of hl12), ul.1, by omega, fun v H13 e13 hv u1 u2 u3 u4 => ?_⟩
    refine q v H13 (E12.trans e13) ?_
    unfold dueO
    rw [if_neg hno, hmn]
    have e1 : uniL (uniL s.hand (lyAt s i)) [] = uniL s.hand (lyAt s i) := uniL_self ul.2.1
    have e2 : uniN (s.op ++ [i]) [] = uniN s.op [i] := (show UniN s.op [i] (uniN (s.op ++ [i]) []) from ⟨u2.1, fun z => by have := u2.2 z; rw [List.append_nil] at this; exact this⟩).eq
    have e3 : uniN (uniN s.br (if force = true then [i] else [])) [] = if force = true then uniN s.br [i] else s.br := by
      rw [uniN_nil um.1]
      split
      · rfl
      · exact uniN_nil ok.bu
    rw [e1, e2, e3, uni_nil] at hv
    exact hv
end
end Kw
set_option Elab.async false
set_option linter.all false
set_option maxRecDepth 100000
set_option maxHeartbeats 4000000
namespace Kw
open PySem PySem.Spec PyProof.Rows L2 Evl
abbrev sLFr : Stmt := topS 45
theorem scLFr : FnScope ["thing", "least", "top"] ["thing", "least", "top"] (defScope sLFr) := ⟨rfl, rfl, rfl, by decide +kernel, rfl, by decide +kernel, by decide +kernel⟩
section
variable {P : Program} {w : World} {K : PySem.W.Frag} {mg : Str → Option Value} {base : Heap} {H : Hp} {σ : L2.St}
/-! ### _law_from -/
def fromD (lo hi : Int) : PyData → Bool
  | .int i => decide (lo ≤ i) && decide (i ≤ hi)
  | _ => false
def spLFr (K : PySem.W.Frag) : Sp := fun vs H Q _ => ∃ (v : V) (d : PyData) (lo hi : Int), vs = [v, .int lo, .int hi] ∧ Dp K H v d ∧ RetV (.bl (fromD lo hi d)) H Q
theorem ok_LFr {f  : Addr} {fd  : FuncData} {k : Nat} (F : Fun K "_law_from" "_law_from" sLFr f fd) (B : Bu mg) : FnOk P w K mg base CX0 (k + 1) f fd ["thing", "least", "top"] (spLFr K) := by
  refine F.ok scLFr (fun vs H Q E h => ?_) (fun cdv A outer s H vs Q E hr h => ?_)
  · obtain ⟨v, d, lo, hi, rfl, _⟩ := h
    rfl
  · obtain ⟨v, d, lo, hi, rfl, hd, q⟩ := h
    refine ⟨_, (pss_one (ps_ret (pe_and (pe_callB call_isi (by rfl) B.isi boot_isinstance (pa_cons (pv 0) (pa_cons (pe_bltn (v := .ty "int") (by rfl) B.int boot_int rfl) pa_nil))) (pe_and (pe_not (pe_callB call_isi (by rfl) B.isi boot_isinstance (pa_cons (pv 0) (pa_cons (pe_bltn (v := .ty "bool") (by rfl) B.bool (by decide +kernel) rfl) pa_nil)))) (pe_and (pe_cmpR op_le (pv 1) (pv 0) (nomark _)) (pe_one (pe_cmpR op_le (pv 0) (pv 2) (nomark _)))))))), ?_⟩
    have i1 : Ev (tCB (rIsi K) (tCons (tVar 0) (tCons (tC (.ty "int")) tNil))) [some v, some (.int lo), some (.int hi)] H (.bl (isIntD d || isBolD d)) := ev_isiD (K := K) (ev_var (v := v) rfl) ev_c hd (kit_int hd)
    have i2 : Ev (tNotV (tCB (rIsi K) (tCons (tVar 0) (tCons (tC (.ty "bool")) tNil)))) [some v, some (.int lo), some (.int hi)] H (.bl (!isBolD d)) := ev_notV (ev_isiD (K := K) (ev_var (v := v) rfl) ev_c hd (kit_bol hd))
    cases hi1 : isIntD d with
    | true =>
      cases d <;> first | cases hi1 | skip
      rename_i i
      cases hd
      refine s_ret (v := .bl (fromD lo hi (.int i))) (ev_is (ev_andV i1 fun _ => ev_andV i2 fun _ => ev_andV (ev_op (ev_var (v := .int lo) rfl) (ev_var (v := .int i) rfl) rv_le) fun _ => ev_op (ev_var (v := .int i) rfl) (ev_var (v := .int hi) rfl) rv_le) ?_) (fun H1 e1 => q H1 e1)
      show V.bl (true && (true && (decide (lo ≤ i) && decide (i ≤ hi)))) = V.bl (decide (lo ≤ i) && decide (i ≤ hi))
      rw [Bool.true_and, Bool.true_and]
    | false =>
      have hf : fromD lo hi d = false := by cases d <;> first | rfl | cases hi1
      rw [hf] at q
      rw [hi1, Bool.false_or] at i1
      cases hb : isBolD d with
      | true =>
        rw [hb] at i1 i2
        exact s_ret (v := .bl false) (ev_is (ev_andV i1 fun _ => ev_andV (b := false) i2 fun h => by cases h) rfl) (fun H1 e1 => q H1 e1)
      | false =>
        rw [hb] at i1
        exact s_ret (v := .bl false) (ev_is (ev_andV (b := false) i1 fun h => by cases h) rfl) (fun H1 e1 => q H1 e1)
end
end Kw
set_option Elab.async false
set_option linter.all false
set_option maxRecDepth 100000
set_option maxHeartbeats 4000000
namespace Kw
open PySem PySem.Spec PyProof.Rows L2 Evl KwX NdefX LamX
abbrev sLLb : Stmt := topS 55
theorem scLLb : FnScope ["state", "colour", "number", "many", "hand", "opened", "broken", "inside", "there", "one"] ["state", "colour", "number", "many"] (defScope sLLb) := ⟨rfl, rfl, rfl, by decide +kernel, rfl, by decide +kernel, by decide +kernel⟩
/-! ### _law_laid_by -/
noncomputable def dueL (h : House) (s : KSt) (cv : V) (d : PyData) : Due := match cv with
  | .str c => if c ∈ s.hand then (match boxN h.1.length d with
    | none => .inl (.cls 6)
    | some i => if i ∈ s.op then (if 6 < (uniL (lyAt s i) [c]).length then .inl (.cls 12) else .inr (layS s c i)) else .inl (.cls 11)) else .inl (.cls 7)
  | _ => .inl (.cls 7)
section
variable {P : Program} {w : World} {K : PySem.W.Frag} {mg : Str → Option Value} {base : Heap}
theorem due_cls {K : PySem.W.Frag} {σ : L2.St} {H : Hp} {n : Nat} {nm : Str} {Q : VK} (hn : n < 14) (e : nmC n = nm) (q : ∀ v H', Ex H H' → DueAt K H' v (.inl (.cls n)) → Q v H') : tLst (tCons (tC (.str nm)) (tCons (tC (.bl true)) tNil)) σ H Q := by
  subst e
  exact (ed_lst (K := K) (da_cons ed_str (da_cons ed_bl da_nil)) (by show 2 ≤ 1000; decide)) H (Ex.refl H) _ fun v H2 e2 hv => q v H2 e2 ⟨hn, hv⟩
def spLLb (K : PySem.W.Frag) : Sp := fun vs H Q _ => ∃ (h : House) (st ha oa ba la : Addr) (lvs : List V) (s : KSt) (cv v : V) (d : PyData), vs = [.ref st, cv, v, vN h.1.length] ∧ StA K H st ha oa ba la lvs s ∧ SOk h s ∧ (cv = .non ∨ ∃ c, cv = .str c) ∧ Dp K H v d ∧
  ∀ v H', Ex H H' → DueAt K H' v (dueL h s cv d) → Q v H'
theorem from_box {n : Nat} {d : PyData} : fromD 0 ((n : Int) - 1) d = (boxN n d).isSome := by
  rw [← plc_box]
  cases d <;> first | rfl | skip
  rename_i i
  show (decide (0 ≤ i) && decide (i ≤ (n : Int) - 1)) = (decide (0 ≤ i) && decide (i < (n : Int)))
  congr 1
  exact decide_eq_decide.mpr (by omega)
theorem dp_colour {H : Hp} {cv : V} (h : cv = .non ∨ ∃ c, cv = .str c) : ∃ d, Dp K H cv d ∧ (isStrD d = true ↔ ∃ c, cv = .str c) := by
  rcases h with rfl | ⟨c, rfl⟩
  · exact ⟨_, .non, fun z => (by cases z), fun ⟨c, z⟩ => (by cases z)⟩
  · exact ⟨_, .str c, fun _ => ⟨c, rfl⟩, fun _ => rfl⟩
theorem ok_LLb {f fLFr fLCg : Addr} {fd fdLFr fdLCg : FuncData} {k : Nat} (F : Fun K "_law_laid_by" "_law_laid_by" sLLb f fd) (DLFr : Df K mg "_law_from" sLFr ["thing", "least", "top"] fLFr fdLFr) (DLCg : Df K mg "_law_changed" sLCg ["state", "number", "opened", "broken", "inside", "hand"] fLCg fdLCg) (GLFr : FnOk P w K mg base CX0 (k + 1) fLFr fdLFr ["thing", "least", "top"] (spLFr K)) (GLCg : FnOk P w K mg base CX0 (k + 1) fLCg fdLCg ["state", "number", "opened", "broken", "inside", "hand"] (spLCg K)) (B : Bu mg) : FnOk P w K mg base CX0 (k + 2) f fd ["state", "colour", "number", "many"] (spLLb K) := by
  refine F.ok scLLb (fun vs H Q E h => ?_) (fun cdv A outer s H vs Q E hr h => ?_)
  · obtain ⟨h, st, ha, oa, ba, la, lvs, s, cv, v, d, rfl, _⟩ := h
    rfl
  · obtain ⟨h, st, ha, oa, ba, la, lvs, s, cv, v, d, rfl, hS, ok, hcv, hd, q⟩ := h
    have hu64 := hr.units
    have o40 := ok.ok.ol
    have b40 := ok.ok.bl
    have h40 := ok.ok.hl
    have ll := ok.ok.ll
    have h30 := ok.ok.oh.2.1
    refine ⟨_, (pss_cons (ps_asg (pv 0) (pg_tup rfl (pgs_cons (pg_name (i := 4) scLLb.nd rfl (.inl rfl)) (pgs_cons (pg_name (i := 5) scLLb.nd rfl (.inl rfl)) (pgs_cons (pg_name (i := 6) scLLb.nd rfl (.inl rfl)) (pgs_cons (pg_name (i := 7) scLLb.nd rfl (.inl rfl)) pgs_nil))))))
      (pss_cons (ps_if (PW.pt (pw_or (pt_not (pt_val (pe_callB call_isi (by rfl) B.isi boot_isinstance (pa_cons (pv 1) (pa_cons (pe_bltn (v := .ty "str") (by rfl) B.str boot_str rfl) pa_nil))))) (pw_or1 (pt_cmpR op_notIn_seq (pv 1) (pv 4) (by rfl))))) (pss_one (ps_ret (pe_lst (pa_cons pe_str (pa_cons pe_bl pa_nil))))) pss_nil)
      (pss_cons (ps_if (pt_not (pt_val (pcall DLFr GLFr (hr.mono (by omega)) (pa_cons (pv 2) (pa_cons pe_int (pa_cons (pe_op op_sub (pv 3) pe_int) pa_nil)))))) (pss_one (ps_ret (pe_lst (pa_cons pe_str (pa_cons pe_bl pa_nil))))) pss_nil)
      (pss_cons (ps_if (pt_cmpR op_notIn_seq (pv 2) (pv 5) (by rfl)) (pss_one (ps_ret (pe_lst (pa_cons pe_str (pa_cons pe_bl pa_nil))))) pss_nil)
      (pss_cons (ps_set (i := 8) scLLb.nd rfl (.inl rfl) (pe_callB (KwS.cr_sortTx rfl) (by rfl) B.srt PyProof.Rows.boot_sorted (pa_cons (pe_callTy (KwS.cr_setTx rfl) (by rfl) B.set PyProof.Rows.boot_set (pa_cons (pe_op op_catA (pe_ix ix_tup (pv 7) (pv 2) (fun _ _ => rfl)) (pe_tup (pa_cons (pv 1) pa_nil))) pa_nil)) pa_nil)))
      (pss_cons (ps_if (pt_cmpR op_gt (pe_callB call_len_seq (by rfl) B.len PySem.boot_len (pa_cons (pv 8) pa_nil)) pe_int (nomark _)) (pss_one (ps_ret (pe_lst (pa_cons pe_str (pa_cons pe_bl pa_nil))))) pss_nil)
      (pss_one (ps_ret (pcall DLCg GLCg (hr.mono (by omega)) (pa_cons (pv 0) (pa_cons (pv 2) (pa_cons (pv 5) (pa_cons (pv 6) (pa_cons (pv 8) (pa_cons (pe_lc (own := [("one", 9)]) (g := (gName 9)) (tt := (tTest (tOp rNe (tVar 9) (tVar 1)))) (te := (tVar 9)) rfl scLLb.nd (pi_tup (pv 4)) (blkOk_by (N := ["state", "colour", "number", "many", "hand", "opened", "broken", "inside", "there", "one"]) (sc := defScope sLLb) (by decide +kernel)) (fun _ _ _ _ _ => (pg_name (i := 9) scLLb.nd rfl (.inl rfl))) (fun _ _ _ _ _ => (pts_one (pt_cmpR op_ne (pv 9) (pv 1) (nomark _)))) (fun _ _ _ _ _ => (pv 9))) pa_nil))))))))))))))), ?_⟩
    refine ⟨.ref st, rfl, st, _, rfl, hS.t, rfl, .ref ha, _, rfl, .ref oa, _, rfl, .ref ba, _, rfl, .ref la, _, rfl, rfl, ?_⟩
    obtain ⟨dc, hdc, hsc⟩ := dp_colour (K := K) (H := H) hcv
    have t1 : EvT (tOr (tNot (tB (tCB (rIsi K) (tCons (tVar 1) (tCons (tC (.ty "str")) tNil))))) (tTest (tOp (rIn K true) (tVar 1) (tVar 4)))) [some (.ref st), some cv, some v, some (vN h.1.length), some (.ref ha), some (.ref oa), some (.ref ba), some (.ref la), none, none] H (!isStrD dc || !inV cv (s.hand.map V.str)) := et_or (et_not (et_B (ev_isiD (K := K) (ev_var (v := cv) rfl) ev_c hdc (kit_str hdc)))) fun _ => et_test (ev_op (ev_var (v := cv) rfl) (ev_var (v := .ref ha) rfl) (rv_niT (K := K) hS.h (by rcases hcv with rfl | ⟨c, rfl⟩ <;> rfl) (flat_strs _)))
    refine q_when (σ := [some (.ref st), some cv, some v, some (vN h.1.length), some (.ref ha), some (.ref oa), some (.ref ba), some (.ref la), none, none]) t1 (fun hb H1 e1 => ?_) (fun hb H1 e1 => ?_)
    · refine due_cls (K := K) (n := 7) (by decide) rfl fun v' H2 e2 hv => q v' H2 (e1.trans e2) ?_
      have : dueL h s cv d = .inl (.cls 7) := by
        rcases hcv with rfl | ⟨c, rfl⟩
        · rfl
        · rw [hsc.mpr ⟨c, rfl⟩, inV_str] at hb
          show (if c ∈ s.hand then _ else _) = _
          by_cases z : c ∈ s.hand
          · rw [decide_eq_true z] at hb
            cases hb
          · rw [if_neg z]
      rw [this]
      exact hv
    obtain ⟨c, rfl, hc⟩ : ∃ c, cv = .str c ∧ c ∈ s.hand := by
      rcases hcv with rfl | ⟨c, rfl⟩
      · rw [inV_non] at hb
        cases hx : isStrD dc <;> rw [hx] at hb <;> cases hb
      · refine ⟨c, rfl, ?_⟩
        rw [inV_str] at hb
        by_cases z : c ∈ s.hand
        · exact z
        · rw [decide_eq_false z, Bool.or_eq_false_iff] at hb
          exact absurd hb.2 (by decide)
    have hD : dueL h s (.str c) d = (match boxN h.1.length d with
      | none => .inl (.cls 6)
      | some i => if i ∈ s.op then (if 6 < (uniL (lyAt s i) [c]).length then .inl (.cls 12) else .inr (layS s c i)) else .inl (.cls 11)) := by
      show (if c ∈ s.hand then _ else _) = _
      rw [if_pos hc]
    rw [hD] at q
    refine q_when (σ := [some (.ref st), some (.str c), some v, some (vN h.1.length), some (.ref ha), some (.ref oa), some (.ref ba), some (.ref la), none, none]) (b := !(boxN h.1.length d).isSome) (et_not (et_B (ev_call (ea_cons (ev_var (v := v) rfl) (ea_cons ev_c (ea_cons (ev_op (ev_var (v := vN h.1.length) rfl) ev_c rv_I0) ea_nil))) fun H2 e2 Q2 q2 E2 => ⟨v, d, 0, (h.1.length : Int) - 1, rfl, dp_ex (e1.trans e2) _ _ hd, fun H3 e3 => by rw [from_box]; exact q2 H3 e3⟩))) (fun hb2 H2 e2 => ?_) (fun hb2 H2 e2 => ?_)
    · refine due_cls (K := K) (n := 6) (by decide) rfl fun v' H3 e3 hv => q v' H3 ((e1.trans e2).trans e3) ?_
      cases hx : boxN h.1.length d with
      | none => exact hv
      | some i => rw [hx] at hb2; cases hb2
    cases hx : boxN h.1.length d with
    | none => rw [hx] at hb2; cases hb2
    | some i =>
    obtain ⟨rfl, hi⟩ := boxN_val hd hx
    rw [hx] at q
    dsimp only at q
    refine q_when (σ := [some (.ref st), some (.str c), some (vN i), some (vN h.1.length), some (.ref ha), some (.ref oa), some (.ref ba), some (.ref la), none, none]) (b := !decide (i ∈ s.op)) (et_is (et_test (ev_op (ev_var (v := vN i) rfl) (ev_var (v := .ref oa) rfl) (rv_niT (K := K) (ex_t (e1.trans e2) hS.o) rfl (flat_nats _)))) (by rw [inV_nat])) (fun hb3 H3 e3 => ?_) (fun hb3 H3 e3 => ?_)
    · refine due_cls (K := K) (n := 11) (by decide) rfl fun v' H4 e4 hv => q v' H4 (((e1.trans e2).trans e3).trans e4) ?_
      rw [if_neg (fun z => by rw [decide_eq_true z] at hb3; cases hb3)]
      exact hv
    have hio : i ∈ s.op := Classical.byContradiction fun z => by rw [decide_eq_false z] at hb3; cases hb3
    rw [if_pos hio] at q
    have E3 := (e1.trans e2).trans e3
    obtain ⟨ip, hip, hips⟩ := cols_get hS.ls (i := i) (by omega)
    have l6 := ok.ok.at6 i
    refine ⟨.ref la, rfl, vN i, rfl, la, lvs, (i : Int), .ref ip, rfl, rfl, ex_t E3 hS.l, atI_nat hip, .str c, rfl, by show 1 ≤ sizeLine; decide, fun p1 np1 => ?_⟩
    have f4 := Ex.new (o := .tup [.str c]) np1
    refine catT (K := K) (ys := [c].map V.str) (ex_t (E3.trans f4) hips) (st_of upd_same) (by rw [List.length_map]; show (lyAt s i).length + 1 ≤ _; omega) fun v5 H5 e5 hv5 => ?_
    rw [← List.map_append] at hv5
    refine uni_lst (P := P) (w := w) (K := K) (σ := []) (xs := lyAt s i) (zs := [c]) hv5 (by show _ + 1 ≤ 50; omega) fun tp H6 e6 htp ut => ?_
    have E6 := ((E3.trans f4).trans e5).trans e6
    refine q_when (σ := [some (.ref st), some (.str c), some (vN i), some (vN h.1.length), some (.ref ha), some (.ref oa), some (.ref ba), some (.ref la), some (.ref tp), none]) (b := decide (6 < (uniL (lyAt s i) [c]).length)) (et_is (et_test (ev_op (ev_len (K := K) (ev_var (v := .ref tp) rfl) (sq_of htp)) ev_c rv_I0)) (by
      rw [List.length_map]
      by_cases y : 6 < (uniL (lyAt s i) [c]).length
      · rw [decide_eq_true y]; exact decide_eq_true (by omega)
      · rw [decide_eq_false y]; exact decide_eq_false (by omega))) (fun hb4 H7 e7 => ?_) (fun hb4 H7 e7 => ?_)
    · refine due_cls (K := K) (n := 12) (by decide) rfl fun v' H8 e8 hv => q v' H8 ((E6.trans e7).trans e8) ?_
      rw [if_pos (of_decide_eq_true hb4)]
      exact hv
    have h6 := of_decide_eq_false hb4
    rw [if_neg h6] at q
    have E7 := E6.trans e7
    refine ⟨.ref st, rfl, vN i, rfl, .ref oa, rfl, .ref ba, rfl, .ref tp, rfl, ?_⟩
    refine (el_strF (K := K) (σ := [some (.ref st), some (.str c), some (vN i), some (vN h.1.length), some (.ref ha), some (.ref oa), some (.ref ba), some (.ref la), some (.ref tp), none]) (i := 4) (j := 9) rfl (ex_t E7 hS.h) (by omega) (fun x => !decide (x = c)) (fun v => ⟨rfl, rfl⟩) (fun x G1 g1 hx => et_is (et_test (ev_op (ev_var (v := .str x) rfl) (ev_var (v := .str c) rfl) (rv_ne rfl))) (by
      congr 1
      exact decide_eq_decide.mpr ⟨fun z => by cases z; rfl, fun z => by rw [z]⟩))) H7 (Ex.refl H7) _ fun wp H8 nw e8 hwp => ?_
    have E8 := E7.trans e8
    have ndw : (s.hand.filter fun x => !decide (x = c)).Nodup := (List.nodup_iff_pairwise_ne.mp (ris_nodup ok.hr)).filter _
    have hw40 : (s.hand.filter fun x => !decide (x = c)).length ≤ s.hand.length := List.length_filter_le ..
    refine ⟨st, ha, oa, ba, la, lvs, s, i, oa, ba, tp, wp, s.op, s.br, uniL (lyAt s i) [c], s.hand.filter (fun x => !decide (x = c)), rfl, hS.keep (KeepT.ex E8), by omega, by omega, .inr (ex_t E8 hS.o), List.nodup_iff_pairwise_ne.mpr (ok.ou.imp fun {a b} z => Nat.ne_of_lt z), ex_t E8 hS.b, List.nodup_iff_pairwise_ne.mpr (ok.bu.imp fun {a b} z => Nat.ne_of_lt z), .inl (sq_of ((e7.trans e8) _ _ htp)), ut.1, by omega, .inl (sq_of hwp), ndw, by omega, fun v9 H9 e9 hv u1 u2 u3 u4 => ?_⟩
    refine q v9 H9 (E8.trans e9) ?_
    have r1 : Rising (s.hand.filter fun x => !decide (x = c)) := pwS_rising ((rising_pwS ok.hr).filter _)
    rw [uniL_self r1, uniN_nil ok.ou, uniN_nil ok.bu, uniL_self ut.2.1] at hv
    exact hv
end
end Kw
set_option Elab.async false
set_option linter.all false
set_option maxRecDepth 100000
set_option maxHeartbeats 4000000
namespace Kw
open PySem PySem.Spec PyProof.Rows L2 Evl KwX NdefX LamX
abbrev sLAf : Stmt := topS 56
theorem scLAf : FnScope ["house", "state", "deed", "word", "number", "colour", "hand", "opened", "broken", "inside", "left", "one"] ["house", "state", "deed"] (defScope sLAf) := ⟨rfl, rfl, rfl, by decide +kernel, rfl, by decide +kernel, by decide +kernel⟩
/-! ### _law_after -/
noncomputable def dueA (h : House) (s : KSt) (wd : Str) (cv : V) (d : PyData) : Due := if wd = "lay" then dueL h s cv d else match boxN h.1.length d with
  | none => .inl (.cls 6)
  | some i => if wd = "open" ∨ wd = "break" then dueO h s i (decide (wd = "break")) else if i ∈ s.op then (if wd = "shut" then .inr (shutS s i) else .inr (liftS s i s.br)) else .inl (.cls 11)
theorem set_self' {ly : List (List Str)} {i : Nat} (h : i < ly.length) : ly.set i (ly.getD i []) = ly := by
  apply List.ext_getElem?
  intro j
  rw [List.getElem?_set]
  split
  · next e =>
    subst e
    rw [List.getD_eq_getElem?_getD, List.getElem?_eq_getElem h]
    rfl
  · rfl
theorem uniN_in {l : List Nat} {i : Nat} (h : l.Pairwise (· < ·)) (hi : i ∈ l) : uniN l [i] = l := by
  have u : UniN l [i] l := ⟨h, fun z => ⟨fun hz => List.mem_append_left _ hz, fun hz => (List.mem_append.mp hz).elim id fun y => by
    have : z = i := by simpa using y
    exact this ▸ hi⟩⟩
  exact u.eq.symm
theorem dec_str {a b : Str} : decide (V.str a = V.str b) = decide (a = b) := decide_eq_decide.mpr ⟨fun z => by cases z; rfl, fun z => by rw [z]⟩
theorem dec_nat {a b : Nat} : decide (vN a = vN b) = decide (a = b) := decide_eq_decide.mpr ⟨fun z => by
  have : (a : Int) = (b : Int) := by injection z
  omega, fun z => by rw [z]⟩
theorem el_natF {K : PySem.W.Frag} {σ : L2.St} {H : Hp} {i j : Nat} {t : Addr} {r : List Nat} {tt : TT} (hi : σ[i]? = some (some (.ref t))) (ht : SqT K H t (r.map vN)) (hr : r.length ≤ 1000) (p : Nat → Bool) (hw : ∀ v, wipe ((wipe σ [j]).set j (some v)) [j] = wipe σ [j] ∧ ((wipe σ [j]).set j (some v))[j]? = some (some v)) (hp : ∀ x H1, Ex H H1 → x ∈ r → EvT tt ((wipe σ [j]).set j (some (vN x))) H1 (p x)) : EvL (tLc (iTup K (tVar i)) (gName j) tt (tVar j) [j]) σ H ((r.filter p).map vN) := by
  refine el_lc (ew_tup (K := K) (ev_var hi) ht) (by rw [List.length_map]; omega) (fun k => p (r.getD k 0)) (fun k => vN (r.getD k 0)) (by rw [List.length_map]; exact filter_range_map r 0 p vN) (fun k x H1 H2 Q e hk hy q => ?_)
  obtain ⟨rfl, hx⟩ := hy
  rw [List.getElem?_map] at hx
  obtain ⟨z, hz, rfl⟩ := Option.map_eq_some_iff.mp hx
  have hg : r.getD k 0 = z := by rw [List.getD_eq_getElem?_getD, hz]; rfl
  refine q _ _ (Ex.refl _) (hw (vN z)).1 (by rw [hg]; exact hp z H2 e (List.mem_of_getElem? hz)) fun _ => by rw [hg]; exact ev_var (hw (vN z)).2
section
variable {P : Program} {w : World} {K : PySem.W.Frag} {mg : Str → Option Value} {base : Heap}
def spLAf (K : PySem.W.Frag) : Sp := fun vs H Q _ => ∃ (hv : V) (h : House) (st ha oa ba la dp : Addr) (lvs : List V) (s : KSt) (wd : Str) (cv v : V) (d : PyData), vs = [hv, .ref st, .ref dp] ∧ HouseAt K H hv h ∧ StA K H st ha oa ba la lvs s ∧ SOk h s ∧ SqT K H dp [.str wd, v, cv] ∧ (cv = .non ∨ ∃ c, cv = .str c) ∧ Dp K H v d ∧
  ∀ v H', Ex H H' → DueAt K H' v (dueA h s wd cv d) → Q v H'
theorem ok_LAf {f fLLb fLFr fLOp fLCg : Addr} {fd fdLLb fdLFr fdLOp fdLCg : FuncData} {k : Nat} (F : Fun K "_law_after" "_law_after" sLAf f fd) (DLLb : Df K mg "_law_laid_by" sLLb ["state", "colour", "number", "many"] fLLb fdLLb) (DLFr : Df K mg "_law_from" sLFr ["thing", "least", "top"] fLFr fdLFr) (DLOp : Df K mg "_law_opened" sLOp ["house", "state", "number", "force"] fLOp fdLOp) (DLCg : Df K mg "_law_changed" sLCg ["state", "number", "opened", "broken", "inside", "hand"] fLCg fdLCg) (GLLb : FnOk P w K mg base CX0 (k + 2) fLLb fdLLb ["state", "colour", "number", "many"] (spLLb K)) (GLFr : FnOk P w K mg base CX0 (k + 1) fLFr fdLFr ["thing", "least", "top"] (spLFr K)) (GLOp : FnOk P w K mg base CX0 (k + 2) fLOp fdLOp ["house", "state", "number", "force"] (spLOp K)) (GLCg : FnOk P w K mg base CX0 (k + 1) fLCg fdLCg ["state", "number", "opened", "broken", "inside", "hand"] (spLCg K)) (B : Bu mg) : FnOk P w K mg base CX0 (k + 3) f fd ["house", "state", "deed"] (spLAf K) := by
  refine F.ok scLAf (fun vs H Q E h => ?_) (fun cdv A outer s H vs Q E hr h => ?_)
  · obtain ⟨hv, h, st, ha, oa, ba, la, dp, lvs, s, wd, cv, v, d, rfl, _⟩ := h
    rfl
  · obtain ⟨hv, h, st, ha, oa, ba, la, dp, lvs, s, wd, cv, v, d, rfl, hA, hS, ok, hdp, hcv, hd, q⟩ := h
    have hu64 := hr.units
    have hA0 := hA
    obtain ⟨hva, hba, hka, rfl, hA1, ⟨bvs, hb1, hb2⟩, hA3⟩ := hA
    refine ⟨_, (pss_cons (ps_asg (pv 2) (pg_tup rfl (pgs_cons (pg_name (i := 3) scLAf.nd rfl (.inl rfl)) (pgs_cons (pg_name (i := 4) scLAf.nd rfl (.inr rfl)) (pgs_cons (pg_name (i := 5) scLAf.nd rfl (.inl rfl)) pgs_nil)))))
      (pss_cons (ps_if (pt_cmpR op_eq (pv 3) pe_str (nomark _)) (pss_one (ps_ret (pcall DLLb GLLb (hr.mono (by omega)) (pa_cons (pv 1) (pa_cons (pv 5) (pa_cons (pv 4) (pa_cons (pe_callB call_len_seq (by rfl) B.len PySem.boot_len (pa_cons (pe_ix ix_tup (pv 0) pe_int (fun _ _ => rfl)) pa_nil)) pa_nil))))))) pss_nil)
      (pss_cons (ps_if (pt_not (pt_val (pcall DLFr GLFr (hr.mono (by omega)) (pa_cons (pv 4) (pa_cons pe_int (pa_cons (pe_op op_sub (pe_callB call_len_seq (by rfl) B.len PySem.boot_len (pa_cons (pe_ix ix_tup (pv 0) pe_int (fun _ _ => rfl)) pa_nil)) pe_int) pa_nil)))))) (pss_one (ps_ret (pe_lst (pa_cons pe_str (pa_cons pe_bl pa_nil))))) pss_nil)
      (pss_cons (ps_if (pt_cmpR op_in_seq (pv 3) (pe_tup (pa_cons pe_str (pa_cons pe_str pa_nil))) (by rfl)) (pss_one (ps_ret (pcall DLOp GLOp (hr.mono (by omega)) (pa_cons (pv 0) (pa_cons (pv 1) (pa_cons (pv 4) (pa_cons (pe_cmpR op_eq (pv 3) pe_str (nomark _)) pa_nil))))))) pss_nil)
      (pss_cons (ps_asg (pv 1) (pg_tup rfl (pgs_cons (pg_name (i := 6) scLAf.nd rfl (.inl rfl)) (pgs_cons (pg_name (i := 7) scLAf.nd rfl (.inl rfl)) (pgs_cons (pg_name (i := 8) scLAf.nd rfl (.inl rfl)) (pgs_cons (pg_name (i := 9) scLAf.nd rfl (.inl rfl)) pgs_nil))))))
      (pss_cons (ps_if (pt_cmpR op_notIn_seq (pv 4) (pv 7) (by rfl)) (pss_one (ps_ret (pe_lst (pa_cons pe_str (pa_cons pe_bl pa_nil))))) pss_nil)
      (pss_cons (ps_if (pt_cmpR op_eq (pv 3) pe_str (nomark _)) (pss_cons (ps_setLc (i := 10) (own := [("one", 11)]) (g := (gName 11)) (tt := (tTest (tOp rNe (tVar 11) (tVar 4)))) (te := (tVar 11)) rfl scLAf.nd rfl rfl (sw_true rfl rfl rfl (by decide +kernel)) (pi_tup (pv 7)) (blkOk_by (N := ["house", "state", "deed", "word", "number", "colour", "hand", "opened", "broken", "inside", "left", "one"]) (sc := defScope sLAf) (by decide +kernel)) (fun _ _ _ _ _ => (pg_name (i := 11) scLAf.nd rfl (.inl rfl))) (fun _ _ _ _ _ => (pts_one (pt_cmpR op_ne (pv 11) (pv 4) (nomark _)))) (fun _ _ _ _ _ => (pv 11)))
      (pss_one (ps_ret (pcall DLCg GLCg (hr.mono (by omega)) (pa_cons (pv 1) (pa_cons (pv 4) (pa_cons (pv 10) (pa_cons (pv 8) (pa_cons (pe_ix ix_tup (pv 9) (pv 4) (fun _ _ => rfl)) (pa_cons (pv 6) pa_nil)))))))))) pss_nil)
      (pss_one (ps_ret (pcall DLCg GLCg (hr.mono (by omega)) (pa_cons (pv 1) (pa_cons (pv 4) (pa_cons (pv 7) (pa_cons (pv 8) (pa_cons (pe_tup pa_nil) (pa_cons (pe_callB (KwS.cr_sortTx rfl) (by rfl) B.srt PyProof.Rows.boot_sorted (pa_cons (pe_callTy (KwS.cr_setTx rfl) (by rfl) B.set PyProof.Rows.boot_set (pa_cons (pe_op op_catA (pv 6) (pe_ix ix_tup (pv 9) (pv 4) (fun _ _ => rfl))) pa_nil)) pa_nil)) pa_nil)))))))))))))))), ?_⟩
    have o40 := ok.ok.ol
    have b40 := ok.ok.bl
    have h40 := ok.ok.hl
    have ll := ok.ok.ll
    have h30 := ok.ok.oh.2.1
    have hlb : bvs.length = h.1.length := paired_len hb2
    refine ⟨.ref dp, rfl, dp, _, rfl, hdp, rfl, .str wd, _, rfl, v, _, rfl, cv, _, rfl, rfl, ?_⟩
    have tl : ∀ {G : Hp} {τ : L2.St}, Ex H G → τ[0]? = some (some (.ref hva)) → Ev (tCB (rLenS K) (tCons (tOp (rIxT K) (tVar 0) (tC (.int 0))) tNil)) τ G (vN h.1.length) := fun {G τ} e h0 => by
      have := ev_lenT (K := K) (σ := τ) (ev_op (ev_var (v := .ref hva) h0) ev_c (rv_ixT (K := K) (ex_t e hA1) at0)) (ex_t e hb1)
      rw [hlb] at this
      exact this
    refine q_when (σ := [some (.ref hva), some (.ref st), some (.ref dp), some (.str wd), some v, some cv, none, none, none, none, none, none]) (b := decide (wd = "lay")) (et_is (et_test (ev_op (ev_var (v := .str wd) rfl) ev_c (rv_eq rfl))) dec_str) (fun hb H1 e1 => ?_) (fun hb H1 e1 => ?_)
    · have hw := of_decide_eq_true hb
      refine ⟨.ref st, rfl, cv, rfl, v, rfl, tl e1 rfl H1 (Ex.refl H1) _ fun H2 e2 => ?_⟩
      have E2 := e1.trans e2
      exact ⟨h, st, ha, oa, ba, la, lvs, s, cv, v, d, rfl, hS.keep (KeepT.ex E2), ok, hcv, dp_ex E2 _ _ hd, fun v' H3 e3 hv => q v' H3 (E2.trans e3) (by unfold dueA; rw [if_pos hw]; exact hv)⟩
    have hw := of_decide_eq_false hb
    have hD : dueA h s wd cv d = (match boxN h.1.length d with
      | none => .inl (.cls 6)
      | some i => if wd = "open" ∨ wd = "break" then dueO h s i (decide (wd = "break")) else if i ∈ s.op then (if wd = "shut" then .inr (shutS s i) else .inr (liftS s i s.br)) else .inl (.cls 11)) := by
      unfold dueA
      rw [if_neg hw]
    rw [hD] at q
    refine q_when (σ := [some (.ref hva), some (.ref st), some (.ref dp), some (.str wd), some v, some cv, none, none, none, none, none, none]) (b := !(boxN h.1.length d).isSome) (et_not (et_B (ev_call (ea_cons (ev_var (v := v) rfl) (ea_cons ev_c (ea_cons (ev_op (tl e1 rfl) ev_c rv_I0) ea_nil))) fun H2 e2 Q2 q2 E2 => ⟨v, d, 0, (h.1.length : Int) - 1, rfl, dp_ex (e1.trans e2) _ _ hd, fun H3 e3 => by rw [from_box]; exact q2 H3 e3⟩))) (fun hb2 H2 e2 => ?_) (fun hb2 H2 e2 => ?_)
    · refine due_cls (K := K) (n := 6) (by decide) rfl fun v' H3 e3 hv => q v' H3 ((e1.trans e2).trans e3) ?_
      cases hx : boxN h.1.length d with
      | none => exact hv
      | some i => rw [hx] at hb2; cases hb2
    cases hx : boxN h.1.length d with
    | none => rw [hx] at hb2; cases hb2
    | some i =>
    obtain ⟨rfl, hi⟩ := boxN_val hd hx
    rw [hx] at q
    dsimp only at q
    have E2 := e1.trans e2
    refine q_when (σ := [some (.ref hva), some (.ref st), some (.ref dp), some (.str wd), some (vN i), some cv, none, none, none, none, none, none]) (b := decide (wd = "open" ∨ wd = "break")) (et_test (fun G1 g1 Q1 q1 => ⟨.str wd, rfl, by show 2 ≤ sizeLine; decide, fun p np => rv_inT (K := K) (neg := false) (xs := (["open", "break"] : List Str).map V.str) (st_of upd_same) rfl (flat_strs _) _ (Ex.refl _) _ fun G2 g2 => by
      have : inV (.str wd) ((["open", "break"] : List Str).map V.str) = decide (wd = "open" ∨ wd = "break") := by
        rw [inV_str]
        exact decide_eq_decide.mpr (by simp)
      rw [this]
      exact q1 G2 ((Ex.new np).trans g2)⟩)) (fun hb3 H3 e3 => ?_) (fun hb3 H3 e3 => ?_)
    · have hw3 := of_decide_eq_true hb3
      rw [if_pos hw3] at q
      have E3 := E2.trans e3
      have tb : Ev (tOp rEq (tVar 3) (tC (.str "break"))) [some (.ref hva), some (.ref st), some (.ref dp), some (.str wd), some (vN i), some cv, none, none, none, none, none, none] H3 (.bl (decide (wd = "break"))) := ev_is (ev_op (ev_var (v := .str wd) rfl) ev_c (rv_eq rfl)) (by rw [dec_str])
      refine ⟨.ref hva, rfl, .ref st, rfl, vN i, rfl, tb H3 (Ex.refl H3) _ fun H4 e4 => ?_⟩
      have E4 := E3.trans e4
      exact ⟨.ref hva, h, st, ha, oa, ba, la, lvs, s, i, _, rfl, hA0.keep (KeepT.ex E4), hS.keep (KeepT.ex E4), ok, hi, fun v' H5 e5 hv => q v' H5 (E4.trans e5) hv⟩
    rw [if_neg (of_decide_eq_false hb3)] at q
    have E3 := E2.trans e3
    refine ⟨.ref st, rfl, st, _, rfl, ex_t E3 hS.t, rfl, .ref ha, _, rfl, .ref oa, _, rfl, .ref ba, _, rfl, .ref la, _, rfl, rfl, ?_⟩
    refine q_when (σ := [some (.ref hva), some (.ref st), some (.ref dp), some (.str wd), some (vN i), some cv, some (.ref ha), some (.ref oa), some (.ref ba), some (.ref la), none, none]) (b := !decide (i ∈ s.op)) (et_is (et_test (ev_op (ev_var (v := vN i) rfl) (ev_var (v := .ref oa) rfl) (rv_niT (K := K) (ex_t E3 hS.o) rfl (flat_nats _)))) (by rw [inV_nat])) (fun hb4 H4 e4 => ?_) (fun hb4 H4 e4 => ?_)
    · refine due_cls (K := K) (n := 11) (by decide) rfl fun v' H5 e5 hv => q v' H5 ((E3.trans e4).trans e5) ?_
      rw [if_neg (fun z => by rw [decide_eq_true z] at hb4; cases hb4)]
      exact hv
    have hio : i ∈ s.op := Classical.byContradiction fun z => by rw [decide_eq_false z] at hb4; cases hb4
    rw [if_pos hio] at q
    have E4 := E3.trans e4
    have ndo : s.op.Nodup := List.nodup_iff_pairwise_ne.mpr (ok.ou.imp fun {a b} z => Nat.ne_of_lt z)
    have ndb : s.br.Nodup := List.nodup_iff_pairwise_ne.mpr (ok.bu.imp fun {a b} z => Nat.ne_of_lt z)
    obtain ⟨ip, hip, hips⟩ := cols_get hS.ls (i := i) (by omega)
    have l6 := ok.ok.at6 i
    refine q_when (σ := [some (.ref hva), some (.ref st), some (.ref dp), some (.str wd), some (vN i), some cv, some (.ref ha), some (.ref oa), some (.ref ba), some (.ref la), none, none]) (b := decide (wd = "shut")) (et_is (et_test (ev_op (ev_var (v := .str wd) rfl) ev_c (rv_eq rfl))) dec_str) (fun hb5 H5 e5 => ?_) (fun hb5 H5 e5 => ?_)
    · rw [if_pos (of_decide_eq_true hb5)] at q
      have E5 := E4.trans e5
      refine q_asgL (σ := [some (.ref hva), some (.ref st), some (.ref dp), some (.str wd), some (vN i), some cv, some (.ref ha), some (.ref oa), some (.ref ba), some (.ref la), none, none]) (el_natF (K := K) (i := 7) (j := 11) rfl (ex_t E5 hS.o) (by omega) (fun x => !decide (x = i)) (fun v => ⟨rfl, rfl⟩) (fun x G1 g1 hx => et_is (et_test (ev_op (ev_var (v := vN x) rfl) (ev_var (v := vN i) rfl) (rv_ne rfl))) (by rw [dec_nat]))) fun lp H6 nl e6 hlp => ?_
      have E6 := E5.trans e6
      refine ⟨.ref st, rfl, vN i, rfl, .ref lp, rfl, .ref ba, rfl, .ref la, rfl, vN i, rfl, la, lvs, (i : Int), .ref ip, rfl, rfl, ex_t E6 hS.l, atI_nat hip, .ref ha, rfl, ?_⟩
      refine ⟨st, ha, oa, ba, la, lvs, s, i, lp, ba, ip, ha, s.op.filter (fun x => !decide (x = i)), s.br, lyAt s i, s.hand, rfl, hS.keep (KeepT.ex E6), by omega, by omega, .inl (sq_of hlp), (List.nodup_iff_pairwise_ne.mp ndo).filter _, ex_t E6 hS.b, ndb, .inr (ex_t E6 hips), ris_nodup (ok.lr _ (lyAt_mem (by omega))), by omega, .inr (ex_t E6 hS.h), ris_nodup ok.hr, by omega, fun v9 H9 e9 hv u1 u2 u3 u4 => q v9 H9 (E6.trans e9) ?_⟩
      rw [uniL_self ok.hr, uniN_nil (ok.ou.filter _), uniN_nil ok.bu, uniL_self (ok.lr _ (lyAt_mem (by omega)))] at hv
      have : s.ly.set i (lyAt s i) = s.ly := set_self' (by omega)
      rw [this] at hv
      exact hv
    rw [if_neg (of_decide_eq_false hb5)] at q
    have E5 := E4.trans e5
    refine ⟨.ref st, rfl, vN i, rfl, .ref oa, rfl, .ref ba, rfl, Nat.zero_le _, fun c nc => ?_⟩
    have f6 := Ex.new (o := .tup []) nc
    have E6 := E5.trans f6
    refine ⟨.ref ha, rfl, .ref la, rfl, vN i, rfl, la, lvs, (i : Int), .ref ip, rfl, rfl, ex_t E6 hS.l, atI_nat hip, ?_⟩
    refine catT (K := K) (ex_t E6 hS.h) (ex_t E6 hips) (by rw [List.length_map, List.length_map]; show _ + (lyAt s i).length ≤ _; omega) fun v7 H7 e7 hv7 => ?_
    rw [← List.map_append] at hv7
    refine uni_lst (P := P) (w := w) (K := K) (σ := []) (xs := s.hand) (zs := lyAt s i) hv7 (by omega) fun l H8 e8 hl8 ul => ?_
    have E8 := (E6.trans e7).trans e8
    have nlen : (uniL s.hand (lyAt s i)).length ≤ 12 := nodup_len (l := names12) ul.1 fun y hy => by
      rcases List.mem_append.mp ((ul.2.2 y).mp hy) with z | z
      · exact ok.nm y z
      · exact ok.ln _ (lyAt_mem (by omega)) y z
    refine ⟨st, ha, oa, ba, la, lvs, s, i, oa, ba, c, l, s.op, s.br, [], uniL s.hand (lyAt s i), rfl, hS.keep (KeepT.ex E8), by omega, by omega, .inr (ex_t E8 hS.o), ndo, ex_t E8 hS.b, ndb, .inr (st_of ((e7.trans e8) _ _ upd_same)), List.nodup_nil, Nat.zero_le _, .inl (sq_of hl8), ul.1, by omega, fun v9 H9 e9 hv u1 u2 u3 u4 => q v9 H9 (E8.trans e9) ?_⟩
    rw [uniL_self ul.2.1, uniN_nil ok.ou, uniN_nil ok.bu, uni_nil] at hv
    show StAt K H9 v9 ⟨_, uniN s.op [i], _, _⟩
    rw [uniN_in ok.ou hio]
    exact hv
end
end Kw
set_option Elab.async false
set_option linter.all false
set_option maxRecDepth 100000
set_option maxHeartbeats 4000000
namespace Kw
open PySem PySem.Spec PyProof.Rows L2 Evl KwX NdefX LamX
abbrev sLDo : Stmt := topS 57
theorem scLDo : FnScope ["kept", "deed", "word", "number", "colour"] ["kept", "deed"] (defScope sLDo) := ⟨rfl, rfl, rfl, by decide +kernel, rfl, by decide +kernel, by decide +kernel⟩
/-! ### _law_do -/
noncomputable def dueD (h : House) (s : KSt) (ps : List KSt) (wd : Str) (cv : V) (d : PyData) : Due := if wd = "back" then (match ps.getLast? with | none => .inl (.cls 13) | some s' => .inr s') else dueA h s wd cv d
def psD (s : KSt) (ps : List KSt) (wd : Str) : List KSt := if wd = "back" then ps.dropLast else ps ++ [s]
def words6 : List Str := ["open", "break", "shut", "take", "lay", "back"]
/-- what a refusal looks like -/
def RfE (CD : Nat → Addr) (XL : Addr) (H : Hp) (E : XK) : Out → Prop
  | .cls n => ∀ H', Ex H H' → E (.ref (CD n)) none H'
  | .locked c => ∀ H' dd, Ex H H' → H' dd = some (.xd [("colour", .str c)]) → E (.ref XL) (some dd) H'
  | _ => True
section
variable {h : House} {s : KSt} {ps : List KSt} {cv : V} {d : PyData}
theorem dueO_op {i : Nat} (hi : i ∈ s.op) {b : Bool} : dueO h s i b = .inl (.cls 10) := by unfold dueO; rw [if_pos hi]
theorem locksF_f {i : Nat} : locksF h s i false = locksOf h s i := by
  unfold locksF locksOf
  by_cases z : i ∈ s.br
  · rw [if_pos z, if_pos (by rw [decide_eq_true z]; rfl)]
  · rw [if_neg z, if_neg (by rw [decide_eq_false z]; decide)]
theorem dueO_miss {i : Nat} {c : Str} (hi : i ∉ s.op) (hm : missing (locksOf h s i) s.hand = some c) : dueO h s i false = .inl (.locked c) := by
  unfold dueO
  rw [if_neg hi, locksF_f, hm]
theorem dueO_lift {i : Nat} (hi : i ∉ s.op) (hm : missing (locksOf h s i) s.hand = none) : dueO h s i false = .inr (liftS s i s.br) := by
  unfold dueO
  rw [if_neg hi, locksF_f, hm]
  rfl
theorem dueO_break {i : Nat} (hi : i ∉ s.op) : dueO h s i true = .inr (liftS s i (uniN s.br [i])) := by
  unfold dueO
  rw [if_neg hi]
  have : locksF h s i true = [] := by unfold locksF; rw [if_pos (by rw [Bool.or_true])]
  rw [this]
  rfl
theorem dueD_op : dueD h s ps "open" cv d = match boxN h.1.length d with | none => .inl (.cls 6) | some i => dueO h s i false := by
  unfold dueD dueA
  rw [if_neg (by decide), if_neg (by decide)]
  cases boxN h.1.length d with
  | none => rfl
  | some i =>
    dsimp only
    rw [if_pos (.inl rfl), decide_eq_false (by decide)]
theorem dueD_br : dueD h s ps "break" cv d = match boxN h.1.length d with | none => .inl (.cls 6) | some i => dueO h s i true := by
  unfold dueD dueA
  rw [if_neg (by decide), if_neg (by decide)]
  cases boxN h.1.length d with
  | none => rfl
  | some i =>
    dsimp only
    rw [if_pos (.inr rfl), decide_eq_true rfl]
theorem dueD_sh : dueD h s ps "shut" cv d = match boxN h.1.length d with | none => .inl (.cls 6) | some i => if i ∈ s.op then .inr (shutS s i) else .inl (.cls 11) := by
  unfold dueD dueA
  rw [if_neg (by decide), if_neg (by decide)]
  cases boxN h.1.length d with
  | none => rfl
  | some i =>
    dsimp only
    rw [if_neg (by decide), if_pos rfl]
theorem dueD_tk : dueD h s ps "take" cv d = match boxN h.1.length d with | none => .inl (.cls 6) | some i => if i ∈ s.op then .inr (liftS s i s.br) else .inl (.cls 11) := by
  unfold dueD dueA
  rw [if_neg (by decide), if_neg (by decide)]
  cases boxN h.1.length d with
  | none => rfl
  | some i =>
    dsimp only
    rw [if_neg (by decide), if_neg (by decide : ¬ ("take" : Str) = "shut")]
theorem dueD_ly : dueD h s ps "lay" cv d = dueL h s cv d := by
  unfold dueD dueA
  rw [if_neg (by decide), if_pos rfl]
theorem dueL_no (hcv : cv = .non ∨ ∃ c, cv = .str c) (hz : ∀ c, cv = .str c → c ∉ s.hand) : dueL h s cv d = .inl (.cls 7) := by
  rcases hcv with rfl | ⟨c, rfl⟩
  · rfl
  · show (if c ∈ s.hand then _ else _) = _
    rw [if_neg (hz c rfl)]
theorem dueL_at {c : Str} (hc : c ∈ s.hand) : dueL h s (.str c) d = (match boxN h.1.length d with
  | none => .inl (.cls 6)
  | some i => if i ∈ s.op then (if 6 < (uniL (lyAt s i) [c]).length then .inl (.cls 12) else .inr (layS s c i)) else .inl (.cls 11)) := by
  exact if_pos hc
theorem psD_on {wd : Str} (h : wd ≠ "back") : psD s ps wd = ps ++ [s] := if_neg h
end
section
variable {P : Program} {w : World} {K : PySem.W.Frag} {mg : Str → Option Value} {base : Heap}
def spLDo (K : PySem.W.Frag) (CK : Addr) (CD : Nat → Addr) (XL : Addr) : Sp := fun vs H Q E => ∃ (a pl dp : Addr) (h : House) (s : KSt) (ps : List KSt) (wd : Str) (cv v : V) (d : PyData), vs = [.ref a, .ref dp] ∧ KpAt K CK H a pl h s ps ∧ OkK h s ∧ ps.length ≤ 1000 ∧ SqT K H dp [.str wd, v, cv] ∧ (cv = .non ∨ ∃ c, cv = .str c) ∧ Dp K H v d ∧ wd ∈ words6 ∧
  (∀ o, dueD h s ps wd cv d = .inl o → RfE CD XL H E o) ∧ (∀ s', dueD h s ps wd cv d = .inr s' → ∀ H', ExK a pl H H' → KpAt K CK H' a pl h s' (psD s ps wd) → Q .non H')
theorem ok_LDo {f fKpO fKpB fKpS fKpT fKpR fKpY : Addr} {fd fdKpO fdKpB fdKpS fdKpT fdKpR fdKpY : FuncData} {k : Nat} (F : Fun K "_law_do" "_law_do" sLDo f fd) (CL : KCls K mg CK) (MKpO : MetD K CK "open_box" sKpO ["self", "box"] fKpO fdKpO) (MKpB : MetD K CK "break_box" sKpB ["self", "box"] fKpB fdKpB) (MKpS : MetD K CK "shut_box" sKpS ["self", "box"] fKpS fdKpS) (MKpT : MetD K CK "take" sKpT ["self", "box"] fKpT fdKpT) (MKpR : MetD K CK "back" sKpR ["self"] fKpR fdKpR) (MKpY : MetD K CK "lay" sKpY ["self", "colour", "box"] fKpY fdKpY) (GKpO : FnOk P w K mg base (L2N.CX P w) (k + 6) fKpO fdKpO ["self", "box"] (spKpO K CK CD XL)) (GKpB : FnOk P w K mg base (L2N.CX P w) (k + 6) fKpB fdKpB ["self", "box"] (spKpB K CK CD XL)) (GKpS : FnOk P w K mg base (L2N.CX P w) (k + 5) fKpS fdKpS ["self", "box"] (spKpS K CK CD XL)) (GKpT : FnOk P w K mg base (L2N.CX P w) (k + 6) fKpT fdKpT ["self", "box"] (spKpT K CK CD XL)) (GKpR : FnOk P w K mg base (L2N.CX P w) (k + 1) fKpR fdKpR ["self"] (spKpR K CK CD XL)) (GKpY : FnOk P w K mg base (L2N.CX P w) (k + 5) fKpY fdKpY ["self", "colour", "box"] (spKpY K CK CD XL)) : FnOk P w K mg base (L2N.CX P w) (k + 7) f fd ["kept", "deed"] (spLDo K CK CD XL) := by
  refine okN F scLDo (fun vs H Q E h => ?_) (fun cdv A outer s H vs Q E hr h => ?_)
  · obtain ⟨a, pl, dp, h, s, ps, wd, cv, v, d, rfl, _⟩ := h
    rfl
  · obtain ⟨a, pl, dp, h, s, ps, wd, cv, v, d, rfl, hK, ok, hn, hdp, hcv, hd, hwd, qe, q⟩ := h
    obtain ⟨dx, hv, t, ha, oa, ba, la, lvs, pvs, g1, g2, g3, g4, g5⟩ := hK.parts
    refine ⟨_, (pss_cons (ps_asg (pv 1) (pg_tup rfl (pgs_cons (pg_name (i := 2) scLDo.nd rfl (.inl rfl)) (pgs_cons (pg_name (i := 3) scLDo.nd rfl (.inl rfl)) (pgs_cons (pg_name (i := 4) scLDo.nd rfl (.inl rfl)) pgs_nil)))))
      (pss_cons (ps_if (pt_cmpR op_eq (pv 2) pe_str (nomark _)) (pss_one (ps_ret (pe_meth (E := E) (pv 0) CL.c MKpO.M GKpO (hr.mono (by omega)) MKpO.b .nil (L2N.passes_call (L2N.takes_of rfl rfl rfl rfl) fun _ _ _ _ h => h) (pa_cons (pv 3) pa_nil)))) pss_nil)
      (pss_cons (ps_if (pt_cmpR op_eq (pv 2) pe_str (nomark _)) (pss_one (ps_ret (pe_meth (E := E) (pv 0) CL.c MKpB.M GKpB (hr.mono (by omega)) MKpB.b .nil (L2N.passes_call (L2N.takes_of rfl rfl rfl rfl) fun _ _ _ _ h => h) (pa_cons (pv 3) pa_nil)))) pss_nil)
      (pss_cons (ps_if (pt_cmpR op_eq (pv 2) pe_str (nomark _)) (pss_one (ps_ret (pe_meth (E := E) (pv 0) CL.c MKpS.M GKpS (hr.mono (by omega)) MKpS.b .nil (L2N.passes_call (L2N.takes_of rfl rfl rfl rfl) fun _ _ _ _ h => h) (pa_cons (pv 3) pa_nil)))) pss_nil)
      (pss_cons (ps_if (pt_cmpR op_eq (pv 2) pe_str (nomark _)) (pss_one (ps_ret (pe_meth (E := E) (pv 0) CL.c MKpT.M GKpT (hr.mono (by omega)) MKpT.b .nil (L2N.passes_call (L2N.takes_of rfl rfl rfl rfl) fun _ _ _ _ h => h) (pa_cons (pv 3) pa_nil)))) pss_nil)
      (pss_one (ps_ret (pe_ifExp (pt_cmpR op_eq (pv 2) pe_str (nomark _)) (pe_meth0 (E := E) (pv 0) CL.c MKpR.M GKpR (hr.mono (by omega)) MKpR.b .nil (L2N.passes_call (L2N.takes_of rfl rfl rfl rfl) fun _ _ _ _ h => h)) (pe_meth (E := E) (pv 0) CL.c MKpY.M GKpY (hr.mono (by omega)) MKpY.b .nil (L2N.passes_call (L2N.takes_of rfl rfl rfl rfl) fun _ _ _ _ h => h) (pa_cons (pv 4) (pa_cons (pv 3) pa_nil))))))))))), ?_⟩
    refine ⟨.ref dp, rfl, dp, _, rfl, hdp, rfl, .str wd, _, rfl, v, _, rfl, cv, _, rfl, rfl, ?_⟩
    refine q_when (σ := [some (.ref a), some (.ref dp), some (.str wd), some v, some cv]) (b := decide (wd = "open")) (et_is (et_test (ev_op (ev_var (v := .str wd) rfl) ev_c (rv_eq rfl))) dec_str) (fun hb G1 x1 => ?_) (fun hb1 G1 x1 => ?_)
    · obtain rfl := of_decide_eq_true hb
      have E := x1
      have hp : psD s ps "open" = ps ++ [s] := psD_on (by decide)
      rw [hp] at q
      refine ⟨.ref a, rfl, a, dx, _, rfl, E _ _ g1, rfl, v, rfl, a, pl, h, s, ps, v, d, rfl, hK.ex E, ok, dp_ex E _ _ hd, hn, fun hz H' e' => qe (.cls 6) (by rw [dueD_op, hz]) H' (E.trans e'), fun i hz hi H' e' => qe (.cls 10) (by rw [dueD_op, hz]; exact dueO_op hi) H' (E.trans e'), fun i c hz hi hm H' dd e' hdd => qe (.locked c) (by rw [dueD_op, hz]; exact dueO_miss hi hm) H' dd (E.trans e') hdd, fun i hz hi hm H' e' hK' _ => q _ (by rw [dueD_op, hz]; exact dueO_lift hi hm) H' ((ExK.ex E).trans e') hK'⟩
    have E1 := x1
    refine q_when (σ := [some (.ref a), some (.ref dp), some (.str wd), some v, some cv]) (b := decide (wd = "break")) (et_is (et_test (ev_op (ev_var (v := .str wd) rfl) ev_c (rv_eq rfl))) dec_str) (fun hb G2 x2 => ?_) (fun hb2 G2 x2 => ?_)
    · obtain rfl := of_decide_eq_true hb
      have E := E1.trans x2
      have hp : psD s ps "break" = ps ++ [s] := psD_on (by decide)
      rw [hp] at q
      refine ⟨.ref a, rfl, a, dx, _, rfl, E _ _ g1, rfl, v, rfl, a, pl, h, s, ps, v, d, rfl, hK.ex E, ok, dp_ex E _ _ hd, hn, fun hz H' e' => qe (.cls 6) (by rw [dueD_br, hz]) H' (E.trans e'), fun i hz hi H' e' => qe (.cls 10) (by rw [dueD_br, hz]; exact dueO_op hi) H' (E.trans e'), fun i hz hi H' e' hK' _ _ => q _ (by rw [dueD_br, hz]; exact dueO_break hi) H' ((ExK.ex E).trans e') hK'⟩
    have E2 := E1.trans x2
    refine q_when (σ := [some (.ref a), some (.ref dp), some (.str wd), some v, some cv]) (b := decide (wd = "shut")) (et_is (et_test (ev_op (ev_var (v := .str wd) rfl) ev_c (rv_eq rfl))) dec_str) (fun hb G3 x3 => ?_) (fun hb3 G3 x3 => ?_)
    · obtain rfl := of_decide_eq_true hb
      have E := E2.trans x3
      have hp : psD s ps "shut" = ps ++ [s] := psD_on (by decide)
      rw [hp] at q
      refine ⟨.ref a, rfl, a, dx, _, rfl, E _ _ g1, rfl, v, rfl, a, pl, h, s, ps, v, d, rfl, hK.ex E, ok, dp_ex E _ _ hd, hn, fun hz H' e' => qe (.cls 6) (by rw [dueD_sh, hz]) H' (E.trans e'), fun i hz hi H' e' => qe (.cls 11) (by rw [dueD_sh, hz]; exact if_neg hi) H' (E.trans e'), fun i hz hi H' e' hK' => q _ (by rw [dueD_sh, hz]; exact if_pos hi) H' ((ExK.ex E).trans e') hK'⟩
    have E3 := E2.trans x3
    refine q_when (σ := [some (.ref a), some (.ref dp), some (.str wd), some v, some cv]) (b := decide (wd = "take")) (et_is (et_test (ev_op (ev_var (v := .str wd) rfl) ev_c (rv_eq rfl))) dec_str) (fun hb G4 x4 => ?_) (fun hb4 G4 x4 => ?_)
    · obtain rfl := of_decide_eq_true hb
      have E := E3.trans x4
      have hp : psD s ps "take" = ps ++ [s] := psD_on (by decide)
      rw [hp] at q
      refine ⟨.ref a, rfl, a, dx, _, rfl, E _ _ g1, rfl, v, rfl, a, pl, h, s, ps, v, d, rfl, hK.ex E, ok, dp_ex E _ _ hd, hn, fun hz H' e' => qe (.cls 6) (by rw [dueD_tk, hz]) H' (E.trans e'), fun i hz hi H' e' => qe (.cls 11) (by rw [dueD_tk, hz]; exact if_neg hi) H' (E.trans e'), fun i hz hi H' e' hK' _ => q _ (by rw [dueD_tk, hz]; exact if_pos hi) H' ((ExK.ex E).trans e') hK'⟩
    have E4 := E3.trans x4
    have h2 : wd = "lay" ∨ wd = "back" := by
      have n1 := of_decide_eq_false hb1
      have n2 := of_decide_eq_false hb2
      have n3 := of_decide_eq_false hb3
      have n4 := of_decide_eq_false hb4
      simp only [words6, List.mem_cons, List.not_mem_nil, or_false] at hwd
      rcases hwd with z | z | z | z | z | z
      · exact absurd z n1
      · exact absurd z n2
      · exact absurd z n3
      · exact absurd z n4
      · exact .inl z
      · exact .inr z
    refine (et_is (et_test (ev_op (ev_var (v := .str wd) rfl) ev_c (rv_eq rfl))) (dec_str (b := "back"))) G4 (Ex.refl G4) _ fun G5 x5 => ?_
    have E5 := E4.trans x5
    rcases h2 with rfl | rfl
    · rw [decide_eq_false (by decide), if_neg (by decide)]
      have hp : psD s ps "lay" = ps ++ [s] := psD_on (by decide)
      rw [hp] at q
      refine ⟨.ref a, rfl, a, dx, _, rfl, E5 _ _ g1, rfl, cv, rfl, v, rfl, a, pl, h, s, ps, v, cv, d, rfl, hK.ex E5, ok, dp_ex E5 _ _ hd, hn, hcv, fun hz H' e' => qe (.cls 7) (by rw [dueD_ly]; exact dueL_no hcv hz) H' (E5.trans e'), ?_⟩
      rintro c rfl hc
      have hD := dueD_ly (h := h) (s := s) (ps := ps) (cv := .str c) (d := d)
      rw [dueL_at hc] at hD
      exact ⟨fun hz H' e' => qe (.cls 6) (by rw [hD, hz]) H' (E5.trans e'), fun i hz hi H' e' => qe (.cls 11) (by rw [hD, hz]; exact if_neg hi) H' (E5.trans e'), fun i hz hi _ => ⟨fun h6 H' e' => qe (.cls 12) (by rw [hD, hz]; show (if i ∈ s.op then _ else _) = _; rw [if_pos hi, if_pos h6]) H' (E5.trans e'), fun h6 H' e' hK' => q _ (by rw [hD, hz]; show (if i ∈ s.op then _ else _) = _; rw [if_pos hi, if_neg (by omega)]) H' ((ExK.ex E5).trans e') hK'⟩⟩
    · rw [decide_eq_true rfl, if_pos rfl]
      refine ⟨.ref a, rfl, a, dx, _, rfl, E5 _ _ g1, rfl, a, pl, h, s, ps, rfl, hK.ex E5, fun hz H' e' => qe (.cls 13) (by subst hz; rfl) H' (E5.trans e'), fun ps' s' hz H' e' hK' => ?_⟩
      have e1 : dueD h s ps "back" cv d = .inr s' := by
        unfold dueD
        rw [if_pos rfl, hz, List.getLast?_append]
        rfl
      have e2 : psD s ps "back" = ps' := by
        unfold psD
        rw [if_pos rfl, hz, List.dropLast_append_of_ne_nil (by simp)]
        simp
      exact q s' e1 H' ((ExK.ex E5).trans e') (by rw [e2]; exact hK')
end
end Kw
set_option Elab.async false
set_option linter.all false
set_option maxRecDepth 100000
set_option maxHeartbeats 4000000
namespace Kw
open PySem
/-! ### which boxes open at all -/
def Closed (bs : List Box) (hand : List Str) (S : Nat → Prop) : Prop := ∀ i, i < bs.length → (∀ c ∈ (bx bs i).1, c ∈ hand ∨ ∃ j, j < bs.length ∧ S j ∧ c ∈ (bx bs j).2) → S i
def Op (bs : List Box) (hand : List Str) (i : Nat) : Prop := ∀ S : Nat → Prop, Closed bs hand S → S i
theorem Op.closed (bs : List Box) (hand : List Str) : Closed bs hand (Op bs hand) := fun i hi h S hS => hS i hi fun c hc => (h c hc).imp id fun ⟨j, h1, h2, h3⟩ => ⟨j, h1, h2 S hS, h3⟩
theorem fits_iff {ls hs : List Str} : fitsB ls hs = true ↔ ∀ c ∈ ls, c ∈ hs := by
  unfold fitsB
  rw [List.all_eq_true]
  exact ⟨fun h c hc => of_decide_eq_true (h c hc), fun h c hc => decide_eq_true (h c hc)⟩
theorem mem_keysIn {bs : List Box} {is : List Nat} {c : Str} : c ∈ keysIn bs is ↔ ∃ i ∈ is, c ∈ (bx bs i).2 := by
  unfold keysIn
  rw [List.mem_flatMap]
/-- boxes opened one behind the other -/
def Seq (bs : List Box) (hand : List Str) (op : List Nat) : Prop := ∀ i ∈ op, i < bs.length ∧ Op bs hand i
theorem Seq.fits {bs : List Box} {hand : List Str} {op : List Nat} (h : Seq bs hand op) {i : Nat} (hi : i < bs.length) (hf : fitsB (bx bs i).1 (hand ++ keysIn bs op) = true) : Op bs hand i := by
  refine Op.closed bs hand i hi fun c hc => ?_
  rcases List.mem_append.mp (fits_iff.mp hf c hc) with z | z
  · exact .inl z
  · obtain ⟨j, h1, h2⟩ := mem_keysIn.mp z
    exact .inr ⟨j, (h j h1).1, (h j h1).2, h2⟩
theorem seq_all {bs : List Box} {hand : List Str} {op : List Nat} (hmax : ∀ i, i < bs.length → i ∉ op → fitsB (bx bs i).1 (hand ++ keysIn bs op) = false) {i : Nat} (h : Op bs hand i) : i ∈ op := by
  refine h (fun j => j ∈ op) fun j hj hc => ?_
  by_cases hm : j ∈ op
  · exact hm
  · have := hmax j hj hm
    rw [show fitsB (bx bs j).1 (hand ++ keysIn bs op) = true from fits_iff.mpr fun c hc' => List.mem_append.mpr ((hc c hc').imp id fun ⟨k, _, h2, h3⟩ => mem_keysIn.mpr ⟨k, h2, h3⟩)] at this
    cases this
/-- the rounds open just these -/
theorem rounds_seq (bs : List Box) (hand : List Str) : ∀ (n : Nat) (op closed : List Nat), closed.length < n → Seq bs hand op → (∀ i ∈ closed, i < bs.length) → (∀ i, i < bs.length → i ∈ op ∨ i ∈ closed) → closed.Nodup → (∀ i ∈ op, i ∉ closed) →
    Seq bs hand (op ++ (roundsF bs n (hand ++ keysIn bs op) closed).flatten) ∧ (roundsF bs n (hand ++ keysIn bs op) closed).flatten.Nodup ∧ (∀ i ∈ (roundsF bs n (hand ++ keysIn bs op) closed).flatten, i ∈ closed) ∧
    ∀ i, i < bs.length → i ∉ op ++ (roundsF bs n (hand ++ keysIn bs op) closed).flatten → fitsB (bx bs i).1 (hand ++ keysIn bs (op ++ (roundsF bs n (hand ++ keysIn bs op) closed).flatten)) = false
  | 0, _, _, h, _, _, _, _, _ => by omega
  | n + 1, op, closed, hn, hs, hc, ha, nd, hd => by
    show Seq bs hand (op ++ (if readyOf bs (hand ++ keysIn bs op) closed = [] then [] else _).flatten) ∧ _
    by_cases h : readyOf bs (hand ++ keysIn bs op) closed = []
    · have e : roundsF bs (n + 1) (hand ++ keysIn bs op) closed = [] := if_pos h
      rw [if_pos h, e]
      refine ⟨by rw [List.flatten_nil, List.append_nil]; exact hs, List.nodup_nil, by simp, fun i hi hm => ?_⟩
      rw [List.flatten_nil, List.append_nil] at hm ⊢
      have him := (ha i hi).resolve_left hm
      cases q : fitsB (bx bs i).1 (hand ++ keysIn bs op) with
      | false => rfl
      | true =>
        have : i ∈ readyOf bs (hand ++ keysIn bs op) closed := List.mem_filter.mpr ⟨him, q⟩
        rw [h] at this
        cases this
    · have e : roundsF bs (n + 1) (hand ++ keysIn bs op) closed = readyOf bs (hand ++ keysIn bs op) closed :: roundsF bs n ((hand ++ keysIn bs op) ++ keysIn bs (readyOf bs (hand ++ keysIn bs op) closed)) (less closed (readyOf bs (hand ++ keysIn bs op) closed)) := if_neg h
      have hlt := less_lt h
      rw [if_neg h, e]
      generalize hr : readyOf bs (hand ++ keysIn bs op) closed = r at *
      have ek : (hand ++ keysIn bs op) ++ keysIn bs r = hand ++ keysIn bs (op ++ r) := by
        unfold keysIn
        rw [List.flatMap_append, List.append_assoc]
      have hrm : ∀ i ∈ r, i ∈ closed ∧ fitsB (bx bs i).1 (hand ++ keysIn bs op) = true := fun i hi => by
        rw [← hr] at hi
        exact List.mem_filter.mp hi
      have hs2 : Seq bs hand (op ++ r) := fun i hi => by
        rcases List.mem_append.mp hi with z | z
        · exact hs i z
        · exact ⟨hc i (hrm i z).1, hs.fits (hc i (hrm i z).1) (hrm i z).2⟩
      have ih := rounds_seq bs hand n (op ++ r) (less closed r) (by omega) hs2 (fun i hi => hc i (List.mem_filter.mp hi).1) (fun i hi => by
        by_cases hm : i ∈ r
        · exact .inl (List.mem_append.mpr (.inr hm))
        · rcases ha i hi with z | z
          · exact .inl (List.mem_append.mpr (.inl z))
          · exact .inr (List.mem_filter.mpr ⟨z, by simp [hm]⟩)) (nd.filter _) (fun i hi hm => by
        have hm2 := List.mem_filter.mp hm
        rcases List.mem_append.mp hi with z | z
        · exact hd i z hm2.1
        · simp [z] at hm2)
      rw [← ek] at ih
      rw [List.flatten_cons, ← List.append_assoc]
      obtain ⟨i1, i2, i3, i4⟩ := ih
      refine ⟨i1, ?_, fun i hi => ?_, i4⟩
      · refine List.nodup_append.mpr ⟨?_, i2, fun a ha' b hb hab => ?_⟩
        · rw [← hr]
          exact nd.filter _
        · have := List.mem_filter.mp (i3 b hb)
          rw [← hab] at this
          simp [ha'] at this
      · rcases List.mem_append.mp hi with z | z
        · exact (hrm i z).1
        · exact (List.mem_filter.mp (i3 i z)).1
theorem less_nil (l : List Nat) : less l [] = l := List.filter_eq_self.mpr fun _ _ => rfl
def openedOf (bs : List Box) (hand : List Str) : List Nat := (roundsOf bs hand (List.range bs.length)).flatten
theorem opened_facts (bs : List Box) (hand : List Str) : Seq bs hand (openedOf bs hand) ∧ (openedOf bs hand).Nodup ∧ ∀ i, i < bs.length → i ∉ openedOf bs hand → fitsB (bx bs i).1 (hand ++ keysIn bs (openedOf bs hand)) = false := by
  have h := rounds_seq bs hand ((List.range bs.length).length + 1) [] (List.range bs.length) (Nat.lt_succ_self _) (by intro i hi; cases hi) (fun i hi => List.mem_range.mp hi) (fun i hi => .inr (List.mem_range.mpr hi)) List.nodup_range (by intro i hi; cases hi)
  have e : hand ++ keysIn bs [] = hand := List.append_nil _
  rw [e, List.nil_append] at h
  exact ⟨h.1, h.2.1, h.2.2.2⟩
theorem mem_opened {bs : List Box} {hand : List Str} {i : Nat} : i ∈ openedOf bs hand ↔ Op bs hand i := ⟨fun h => ((opened_facts bs hand).1 i h).2, fun h => seq_all (opened_facts bs hand).2.2 h⟩
theorem shut_eq (bs : List Box) (hand : List Str) : shutOf bs hand [] = less (List.range bs.length) (openedOf bs hand) := by
  unfold shutOf openedOf
  have e : hand ++ keysIn bs [] = hand := List.append_nil _
  rw [less_nil, e]
theorem mem_shut {bs : List Box} {hand : List Str} {i : Nat} : i ∈ shutOf bs hand [] ↔ i < bs.length ∧ ¬ Op bs hand i := by
  rw [shut_eq]
  unfold less
  rw [List.mem_filter, List.mem_range]
  constructor
  · rintro ⟨h1, h2⟩
    refine ⟨h1, fun z => ?_⟩
    rw [decide_eq_true (mem_opened.mpr z)] at h2
    cases h2
  · rintro ⟨h1, h2⟩
    exact ⟨h1, by rw [decide_eq_false (fun z => h2 (mem_opened.mp z))]; rfl⟩
/-- whoever opens boxes one by one till none can be opened has opened just these -/
theorem less_same {bs : List Box} {hand : List Str} {op : List Nat} (hs : Seq bs hand op) (hmax : ∀ i, i < bs.length → i ∉ op → fitsB (bx bs i).1 (hand ++ keysIn bs op) = false) : less (List.range bs.length) op = shutOf bs hand [] := by
  rw [shut_eq]
  unfold less
  apply List.filter_congr
  intro i _
  have : i ∈ op ↔ i ∈ openedOf bs hand := ⟨fun h => mem_opened.mpr (hs i h).2, fun h => seq_all hmax (mem_opened.mp h)⟩
  by_cases h : i ∈ op
  · rw [decide_eq_true h, decide_eq_true (this.mp h)]
  · rw [decide_eq_false h, decide_eq_false fun z => h (this.mpr z)]
/-- one key more, a lock fewer: nothing is shut by it -/
theorem Op.mono {bs bs2 : List Box} {hand hand2 : List Str} (hl : bs2.length = bs.length) (hh : ∀ c ∈ hand, c ∈ hand2) (hk : ∀ i, (∀ c ∈ (bx bs2 i).1, c ∈ (bx bs i).1) ∧ ∀ c ∈ (bx bs i).2, c ∈ (bx bs2 i).2) {i : Nat} (h : Op bs hand i) : Op bs2 hand2 i := by
  intro S hS
  refine h S fun j hj hc => hS j (by omega) fun c hc2 => ?_
  exact (hc c ((hk j).1 c hc2)).imp (hh c) fun ⟨k, h1, h2, h3⟩ => ⟨k, by omega, h2, (hk k).2 c h3⟩
theorem shut_mono {bs bs2 : List Box} {hand hand2 : List Str} (hl : bs2.length = bs.length) (hh : ∀ c ∈ hand, c ∈ hand2) (hk : ∀ i, (∀ c ∈ (bx bs2 i).1, c ∈ (bx bs i).1) ∧ ∀ c ∈ (bx bs i).2, c ∈ (bx bs2 i).2) : less (shutOf bs2 hand2 []) (shutOf bs hand []) = [] := by
  unfold less
  rw [List.filter_eq_nil_iff]
  intro i hi
  have h1 := mem_shut.mp hi
  have : i ∈ shutOf bs hand [] := mem_shut.mpr ⟨by omega, fun z => h1.2 (Op.mono hl hh hk z)⟩
  simp [this]
/-- what stays shut is a lot that is kept shut -/
def keptB (bs : List Box) (hand : List Str) (lot : List Nat) : Bool := !(lot.any fun i => fitsB (bx bs i).1 (hand ++ keysIn bs (less (List.range bs.length) lot)))
theorem shut_kept (bs : List Box) (hand : List Str) : keptB bs hand (shutOf bs hand []) = true := by
  unfold keptB
  rw [Bool.not_eq_true', List.any_eq_false]
  intro i hi hf
  have h1 := mem_shut.mp hi
  refine h1.2 (Op.closed bs hand i h1.1 fun c hc => ?_)
  rcases List.mem_append.mp (fits_iff.mp hf c hc) with z | z
  · exact .inl z
  · obtain ⟨j, h2, h3⟩ := mem_keysIn.mp z
    have h4 := List.mem_filter.mp h2
    have hj := List.mem_range.mp h4.1
    refine .inr ⟨j, hj, ?_, h3⟩
    have hns : j ∉ shutOf bs hand [] := fun y => by
      have := h4.2
      rw [decide_eq_true y] at this
      cases this
    exact Classical.byContradiction fun y => hns (mem_shut.mpr ⟨hj, y⟩)
theorem sorted_unique : ∀ {l m : List Int}, l.Perm m → l.Pairwise (· ≤ ·) → m.Pairwise (· ≤ ·) → l = m := by
  intro l m p h1 h2
  exact p.eq_of_pairwise (fun a b _ _ x y => Int.le_antisymm x y) h1 h2
theorem opened_still (bs : List Box) (hand : List Str) : (openedOf bs hand ++ shutOf bs hand []).Perm (List.range bs.length) := by
  rw [shut_eq]
  have nd := (opened_facts bs hand).2.1
  have hs := (opened_facts bs hand).1
  refine (List.perm_ext_iff_of_nodup ?_ List.nodup_range).mpr fun i => ?_
  · refine List.nodup_append.mpr ⟨nd, List.nodup_range.filter _, fun a ha b hb hab => ?_⟩
    have := (List.mem_filter.mp hb).2
    rw [← hab] at this
    rw [decide_eq_true ha] at this
    cases this
  · rw [List.mem_append, List.mem_range]
    constructor
    · rintro (h | h)
      · exact (hs i h).1
      · exact List.mem_range.mp (List.mem_filter.mp h).1
    · intro h
      by_cases hm : i ∈ openedOf bs hand
      · exact .inl hm
      · exact .inr (List.mem_filter.mpr ⟨List.mem_range.mpr h, by rw [decide_eq_false hm]; rfl⟩)
end Kw
set_option Elab.async false
set_option linter.all false
set_option maxRecDepth 100000
set_option maxHeartbeats 4000000
namespace Kw
open PySem
/-! ### what opens where some are broken -/
def ClosedB (bs : List Box) (hand : List Str) (br : List Nat) (S : Nat → Prop) : Prop := (∀ i ∈ br, S i) ∧ Closed bs hand S
def OpB (bs : List Box) (hand : List Str) (br : List Nat) (i : Nat) : Prop := ∀ S : Nat → Prop, ClosedB bs hand br S → S i
section
variable {bs : List Box} {hand : List Str} {br : List Nat} {i u v w : Nat}
theorem OpB.closed (bs : List Box) (hand : List Str) (br : List Nat) : ClosedB bs hand br (OpB bs hand br) := ⟨fun i hi S hS => hS.1 i hi, fun i hi h S hS => hS.2 i hi fun c hc => (h c hc).imp id fun ⟨j, h1, h2, h3⟩ => ⟨j, h1, h2 S hS, h3⟩⟩
theorem Op.opB (h : Op bs hand i) : OpB bs hand br i := fun S hS => h S hS.2
theorem OpB.nil (h : OpB bs hand [] i) : Op bs hand i := fun S hS => h S ⟨fun j hj => (by cases hj), hS⟩
def Stk (bs : List Box) (hand : List Str) (u : Nat) : Prop := u < bs.length ∧ ¬ Op bs hand u
def Single (bs : List Box) : Prop := ∀ b ∈ bs, b.1.length ≤ 1
def lk (bs : List Box) (u : Nat) : Str := (bx bs u).1.headD ""
def pre (bs : List Box) (u v : Nat) : Prop := v < bs.length ∧ lk bs u ∈ (bx bs v).2
theorem bx_mem (h : u < bs.length) : bx bs u ∈ bs := by
  have := bx_get h
  exact List.mem_of_getElem? this
theorem Stk.lock (hs : Single bs) (h : Stk bs hand u) : (bx bs u).1 = [lk bs u] ∧ lk bs u ∉ hand := by
  have hl := hs _ (bx_mem h.1)
  match e : (bx bs u).1, hl with
  | [], _ =>
    exfalso
    exact h.2 (Op.closed bs hand u h.1 fun c hc => by rw [e] at hc; cases hc)
  | [c], _ =>
    have ec : lk bs u = c := by unfold lk; rw [e]; rfl
    rw [ec]
    refine ⟨rfl, fun hc => h.2 (Op.closed bs hand u h.1 fun d hd => ?_)⟩
    rw [e] at hd
    rw [List.mem_singleton.mp hd]
    exact .inl hc
  | _ :: _ :: _, hl => exact absurd hl (by simp)
theorem Stk.pre (hs : Single bs) (h : Stk bs hand u) (hp : Kw.pre bs u v) : Stk bs hand v := by
  refine ⟨hp.1, fun ho => h.2 (Op.closed bs hand u h.1 fun c hc => ?_)⟩
  rw [(h.lock hs).1] at hc
  rw [List.mem_singleton.mp hc]
  exact .inr ⟨v, hp.1, ho, hp.2⟩
inductive Rch (bs : List Box) (u : Nat) : Nat → Prop where
  | refl : Rch bs u u
  | step {v w : Nat} (h : Rch bs u v) (p : pre bs v w) : Rch bs u w
theorem Rch.trans (h : Rch bs u v) (h2 : Rch bs v w) : Rch bs u w := by
  induction h2 with
  | refl => exact h
  | step _ p ih => exact .step ih p
theorem Rch.lt (h : Rch bs u v) (hu : u < bs.length) : v < bs.length := by
  cases h with
  | refl => exact hu
  | step _ p => exact p.1
theorem Rch.stk (hs : Single bs) (h : Rch bs u v) (hu : Stk bs hand u) : Stk bs hand v := by
  induction h with
  | refl => exact hu
  | step _ p ih => exact ih.pre hs p
/-- a stuck box opens where one is broken from which it is come to -/
theorem opB_iff (hs : Single bs) (hu : Stk bs hand u) : OpB bs hand br u ↔ ∃ v ∈ br, Rch bs u v := by
  constructor
  · intro h
    refine Classical.byContradiction fun hn => ?_
    refine h (fun x => ¬ Rch bs u x) ⟨fun i hi hr => hn ⟨i, hi, hr⟩, fun i hi hl hr => ?_⟩ .refl
    have st := hr.stk hs hu
    have lo := st.lock hs
    rcases hl (lk bs i) (by rw [lo.1]; exact List.mem_singleton.mpr rfl) with z | ⟨j, j1, j2, j3⟩
    · exact lo.2 z
    · exact j2 (.step hr ⟨j1, j3⟩)
  · rintro ⟨v, hv, hr⟩
    have key : ∀ x, Rch bs u x → OpB bs hand br x → OpB bs hand br u := by
      intro x hx
      induction hx with
      | refl => exact id
      | step h p ih =>
        intro ho
        have st := h.stk hs hu
        refine ih ((OpB.closed bs hand br).2 _ st.1 fun c hc => ?_)
        rw [(st.lock hs).1] at hc
        rw [List.mem_singleton.mp hc]
        exact .inr ⟨_, p.1, ho, p.2⟩
    exact key v hr ((OpB.closed bs hand br).1 v hv)
/-! ### the lot around a box -/
open Classical in
noncomputable def arnd (bs : List Box) (u : Nat) : List Nat := (List.range bs.length).filter fun v => decide (Rch bs u v)
open Classical in
theorem mem_arnd : v ∈ arnd bs u ↔ v < bs.length ∧ Rch bs u v := by
  unfold arnd
  rw [List.mem_filter, List.mem_range]
  exact and_congr_right fun _ => ⟨fun z => of_decide_eq_true z, fun z => decide_eq_true z⟩
theorem arnd_lt (bs : List Box) (u : Nat) : (arnd bs u).Pairwise (· < ·) := List.Pairwise.filter _ List.pairwise_lt_range
theorem rising_eq {l m : List Nat} (hl : l.Pairwise (· < ·)) (hm : m.Pairwise (· < ·)) (h : ∀ x, x ∈ l ↔ x ∈ m) : l = m := by
  have nl : l.Nodup := List.nodup_iff_pairwise_ne.mpr (hl.imp fun {a b} z => Nat.ne_of_lt z)
  have nm : m.Nodup := List.nodup_iff_pairwise_ne.mpr (hm.imp fun {a b} z => Nat.ne_of_lt z)
  exact List.Perm.eq_of_pairwise (le := (· < ·)) (fun a b _ _ h1 h2 => absurd h1 (Nat.lt_asymm h2)) hl hm ((List.perm_ext_iff_of_nodup nl nm).mpr h)
theorem arnd_self (hu : u < bs.length) : u ∈ arnd bs u := mem_arnd.mpr ⟨hu, .refl⟩
theorem arnd_sub (h : Rch bs u v) : ∀ x ∈ arnd bs v, x ∈ arnd bs u := fun x hx => mem_arnd.mpr ⟨(mem_arnd.mp hx).1, h.trans (mem_arnd.mp hx).2⟩
theorem arnd_eq (h1 : Rch bs u v) (h2 : Rch bs v u) : arnd bs v = arnd bs u := rising_eq (arnd_lt _ _) (arnd_lt _ _) fun x => ⟨arnd_sub h1 x, arnd_sub h2 x⟩
/-- a least lot -/
def Lst (bs : List Box) (hand : List Str) (u : Nat) : Prop := Stk bs hand u ∧ ∀ v ∈ arnd bs u, arnd bs v = arnd bs u
theorem Lst.back (h : Lst bs hand u) (hv : Rch bs u v) : Rch bs v u := by
  have hl := hv.lt h.1.1
  have e := h.2 v (mem_arnd.mpr ⟨hl, hv⟩)
  have : u ∈ arnd bs v := by rw [e]; exact arnd_self h.1.1
  exact (mem_arnd.mp this).2
theorem Lst.of (h : Lst bs hand u) (hs : Single bs) (hv : v ∈ arnd bs u) : Lst bs hand v := by
  have hr := (mem_arnd.mp hv).2
  refine ⟨hr.stk hs h.1, fun w hw => ?_⟩
  rw [h.2 v hv] at hw ⊢
  exact h.2 w hw
theorem sub_len {l m : List Nat} (nd : l.Nodup) (h : ∀ x ∈ l, x ∈ m) (hx : ∃ x ∈ m, x ∉ l) : l.length < m.length := by
  obtain ⟨x, h1, h2⟩ := hx
  have hm : ∀ y ∈ l, y ∈ m.erase x := fun y hy => (List.mem_erase_of_ne (by rintro rfl; exact h2 hy)).mpr (h y hy)
  have key : ∀ {l m : List Nat}, l.Nodup → (∀ x ∈ l, x ∈ m) → l.length ≤ m.length := by
    intro l
    induction l with
    | nil => intro m _ _; exact Nat.zero_le _
    | cons a r ih =>
      intro m nd h
      have nd' := List.nodup_cons.mp nd
      have ha := h a (List.mem_cons_self ..)
      have := ih (m := m.erase a) nd'.2 fun y hy => (List.mem_erase_of_ne (by rintro rfl; exact nd'.1 hy)).mpr (h y (List.mem_cons_of_mem _ hy))
      rw [List.length_erase_of_mem ha] at this
      have := List.length_pos_of_mem ha
      rw [List.length_cons]
      omega
  have := key nd hm
  rw [List.length_erase_of_mem h1] at this
  have := List.length_pos_of_mem h1
  omega
theorem nodup_lt {l : List Nat} (h : l.Pairwise (· < ·)) : l.Nodup := List.nodup_iff_pairwise_ne.mpr (h.imp fun {a b} z => Nat.ne_of_lt z)
theorem least_in (hs : Single bs) : ∀ (n u : Nat), (arnd bs u).length ≤ n → Stk bs hand u → ∃ v, Rch bs u v ∧ Lst bs hand v
  | 0, u, hn, hu => absurd (List.length_pos_of_mem (arnd_self hu.1)) (by omega)
  | n + 1, u, hn, hu => by
    by_cases h : ∀ v ∈ arnd bs u, arnd bs v = arnd bs u
    · exact ⟨u, .refl, hu, h⟩
    · obtain ⟨v, hv⟩ := Classical.not_forall.mp h
      obtain ⟨h1, h2⟩ := Classical.not_imp.mp hv
      have hr := (mem_arnd.mp h1).2
      have hlt : (arnd bs v).length < (arnd bs u).length := sub_len (nodup_lt (arnd_lt bs v)) (arnd_sub hr) (by
        refine Classical.byContradiction fun hn => h2 ?_
        refine rising_eq (arnd_lt _ _) (arnd_lt _ _) fun x => ⟨arnd_sub hr x, fun hx => ?_⟩
        exact Classical.byContradiction fun hz => hn ⟨x, hx, hz⟩)
      obtain ⟨w, w1, w2⟩ := least_in hs n v (by omega) (hr.stk hs hu)
      exact ⟨w, hr.trans w1, w2⟩
/-- all open just where each least lot is hit -/
def OpensB (bs : List Box) (hand : List Str) (br : List Nat) : Prop := ∀ i, i < bs.length → OpB bs hand br i
theorem opens_iff (hs : Single bs) : OpensB bs hand br ↔ ∀ u, Lst bs hand u → ∃ v ∈ br, v ∈ arnd bs u := by
  constructor
  · intro h u hu
    obtain ⟨v, h1, h2⟩ := (opB_iff hs hu.1).mp (h u hu.1.1)
    exact ⟨v, h1, mem_arnd.mpr ⟨h2.lt hu.1.1, h2⟩⟩
  · intro h i hi
    by_cases ho : Op bs hand i
    · exact ho.opB
    · obtain ⟨v, h1, h2⟩ := least_in hs _ i (Nat.le_refl _) ⟨hi, ho⟩
      obtain ⟨w, w1, w2⟩ := h v h2
      exact (opB_iff hs ⟨hi, ho⟩).mpr ⟨w, w1, h1.trans (mem_arnd.mp w2).2⟩
/-! ### the first of the fewest, by least lots -/
/-- first by size, then as tuples -/
def LexLt : List Nat → List Nat → Prop
  | [], [] => False
  | [], _ :: _ => True
  | _ :: _, [] => False
  | a :: r, b :: t => a < b ∨ (a = b ∧ LexLt r t)
structure LotsOk (rs : List (List Nat)) : Prop where
  ne : ∀ r ∈ rs, r ≠ []
  up : ∀ r ∈ rs, r.Pairwise (· < ·)
  apart : ∀ r ∈ rs, ∀ t ∈ rs, ∀ x, x ∈ r → x ∈ t → r = t
  nd : rs.Nodup
def Hits (br : List Nat) (rs : List (List Nat)) : Prop := ∀ r ∈ rs, ∃ v ∈ br, v ∈ r
theorem hits_pick : ∀ {rs : List (List Nat)} {br : List Nat}, LotsOk rs → Hits br rs → ∃ fs : List Nat, fs.length = rs.length ∧ fs.Nodup ∧ (∀ x ∈ fs, x ∈ br ∧ ∃ r ∈ rs, x ∈ r)
  | [], br, _, _ => ⟨[], rfl, List.nodup_nil, fun x hx => by cases hx⟩
  | r :: rs, br, ok, hh => by
    have ok' : LotsOk rs := ⟨fun t ht => ok.ne t (List.mem_cons_of_mem _ ht), fun t ht => ok.up t (List.mem_cons_of_mem _ ht), fun a ha b hb => ok.apart a (List.mem_cons_of_mem _ ha) b (List.mem_cons_of_mem _ hb), (List.nodup_cons.mp ok.nd).2⟩
    obtain ⟨fs, f1, f2, f3⟩ := hits_pick ok' fun t ht => hh t (List.mem_cons_of_mem _ ht)
    obtain ⟨v, v1, v2⟩ := hh r (List.mem_cons_self ..)
    refine ⟨v :: fs, by rw [List.length_cons, List.length_cons, f1], List.nodup_cons.mpr ⟨fun hv => ?_, f2⟩, fun x hx => ?_⟩
    · obtain ⟨_, t, t1, t2⟩ := f3 v hv
      have e := ok.apart r (List.mem_cons_self ..) t (List.mem_cons_of_mem _ t1) v v2 t2
      exact (List.nodup_cons.mp ok.nd).1 (e ▸ t1)
    · rcases List.mem_cons.mp hx with rfl | hx
      · exact ⟨v1, r, List.mem_cons_self .., v2⟩
      · obtain ⟨a, t, b, c⟩ := f3 x hx
        exact ⟨a, t, List.mem_cons_of_mem _ b, c⟩
theorem le_of_sub : ∀ {l m : List Nat}, l.Nodup → (∀ x ∈ l, x ∈ m) → l.length ≤ m.length
  | [], _, _, _ => Nat.zero_le _
  | a :: r, m, nd, h => by
    have ha := h a (List.mem_cons_self ..)
    have nd' := List.nodup_cons.mp nd
    have h2 := le_of_sub (m := m.erase a) nd'.2 fun x hx => (List.mem_erase_of_ne (by rintro rfl; exact nd'.1 hx)).mpr (h x (List.mem_cons_of_mem _ hx))
    rw [List.length_erase_of_mem ha] at h2
    have := List.length_pos_of_mem ha
    rw [List.length_cons]
    omega
theorem hits_len {rs : List (List Nat)} {br : List Nat} (ok : LotsOk rs) (hh : Hits br rs) : rs.length ≤ br.length := by
  obtain ⟨fs, f1, f2, f3⟩ := hits_pick ok hh
  rw [← f1]
  exact le_of_sub f2 fun x hx => (f3 x hx).1
theorem hits_full {rs : List (List Nat)} {br : List Nat} (ok : LotsOk rs) (hh : Hits br rs) (hl : br.length = rs.length) : ∀ x ∈ br, ∃ r ∈ rs, x ∈ r := fun x hx => by
  obtain ⟨fs, f1, f2, f3⟩ := hits_pick ok hh
  by_cases z : x ∈ fs
  · exact (f3 x z).2
  · exfalso
    have := le_of_sub (l := x :: fs) (m := br) (List.nodup_cons.mpr ⟨z, f2⟩) fun y hy => by
      rcases List.mem_cons.mp hy with rfl | hy
      · exact hx
      · exact (f3 y hy).1
    rw [List.length_cons] at this
    omega
theorem head_le {r : List Nat} (hr : r.Pairwise (· < ·)) {x : Nat} (hx : x ∈ r) : r.headD 0 ≤ x := by
  cases r with
  | nil => cases hx
  | cons a t =>
    rcases List.mem_cons.mp hx with rfl | hx
    · exact Nat.le_refl _
    · exact Nat.le_of_lt ((List.pairwise_cons.mp hr).1 x hx)
theorem lex_irr : ∀ l : List Nat, ¬ LexLt l l
  | [], h => h
  | a :: r, h => by
    rcases h with h | ⟨_, h⟩
    · exact Nat.lt_irrefl _ h
    · exact lex_irr r h
theorem lex_heads : ∀ {rs : List (List Nat)} {br : List Nat}, LotsOk rs → (rs.map fun r => r.headD 0).Pairwise (· < ·) → br.Pairwise (· < ·) → Hits br rs → br.length = rs.length → ¬ LexLt br (rs.map fun r => r.headD 0)
  | [], br, _, _, _, _, hl => by
    have : br = [] := List.eq_nil_of_length_eq_zero hl
    subst this
    exact fun h => h
  | r :: rs, [], _, _, _, _, hl => by cases hl
  | r :: rs, b :: t, ok, hp, hb, hh, hl => by
    intro hlt
    have ok' : LotsOk rs := ⟨fun t ht => ok.ne t (List.mem_cons_of_mem _ ht), fun t ht => ok.up t (List.mem_cons_of_mem _ ht), fun a ha b hb => ok.apart a (List.mem_cons_of_mem _ ha) b (List.mem_cons_of_mem _ hb), (List.nodup_cons.mp ok.nd).2⟩
    obtain ⟨q, q1, q2⟩ := hits_full ok hh hl b (List.mem_cons_self ..)
    rw [List.map_cons] at hp hlt
    have hp' := List.pairwise_cons.mp hp
    have hbq := head_le (ok.up q q1) q2
    have hge : r.headD 0 ≤ b := by
      rcases List.mem_cons.mp q1 with rfl | q1
      · exact hbq
      · have := hp'.1 (q.headD 0) (List.mem_map.mpr ⟨q, q1, rfl⟩)
        omega
    rcases hlt with hlt | ⟨e, hlt⟩
    · omega
    · have hq : q = r := by
        rcases List.mem_cons.mp q1 with h | q1
        · exact h
        · have := hp'.1 (q.headD 0) (List.mem_map.mpr ⟨q, q1, rfl⟩)
          omega
      refine lex_heads ok' hp'.2 (List.pairwise_cons.mp hb).2 (fun z hz => ?_) (by rw [List.length_cons, List.length_cons] at hl; omega) hlt
      obtain ⟨v, v1, v2⟩ := hh z (List.mem_cons_of_mem _ hz)
      rcases List.mem_cons.mp v1 with rfl | v1
      · exfalso
        have e2 := ok.apart z (List.mem_cons_of_mem _ hz) q q1 _ v2 q2
        rw [hq] at e2
        exact (List.nodup_cons.mp ok.nd).1 (e2 ▸ hz)
      · exact ⟨v, v1, v2⟩
/-! ### what is told as the fewest -/
structure First (bs : List Box) (hand : List Str) (ls : List Nat) : Prop where
  up : ls.Pairwise (· < ·)
  lt : ∀ i ∈ ls, i < bs.length
  op : OpensB bs hand ls
  fst : ∀ br : List Nat, br.Pairwise (· < ·) → (∀ i ∈ br, i < bs.length) → OpensB bs hand br → ls.length < br.length ∨ (ls.length = br.length ∧ ¬ LexLt br ls)
theorem lex_tri : ∀ {a b : List Nat}, a.length = b.length → ¬ LexLt a b → ¬ LexLt b a → a = b
  | [], [], _, _, _ => rfl
  | [], _ :: _, h, _, _ => by cases h
  | _ :: _, [], h, _, _ => by cases h
  | x :: r, y :: t, h, h1, h2 => by
    have e : x = y := by
      rcases Nat.lt_trichotomy x y with z | z | z
      · exact absurd (.inl z) h1
      · exact z
      · exact absurd (.inl z) h2
    subst e
    rw [lex_tri (by rw [List.length_cons, List.length_cons] at h; omega) (fun z => h1 (.inr ⟨rfl, z⟩)) (fun z => h2 (.inr ⟨rfl, z⟩))]
theorem First.uniq {l m : List Nat} (h1 : First bs hand l) (h2 : First bs hand m) : l = m := by
  have a := h1.fst m h2.up h2.lt h2.op
  have b := h2.fst l h1.up h1.lt h1.op
  rcases a with a | ⟨a, a'⟩
  · rcases b with b | ⟨b, _⟩ <;> omega
  · rcases b with b | ⟨b, b'⟩
    · omega
    · exact lex_tri a b' a'
structure IsLots (bs : List Box) (hand : List Str) (rs : List (List Nat)) : Prop where
  mem : ∀ r, r ∈ rs ↔ ∃ u, Lst bs hand u ∧ r = arnd bs u
  nd : rs.Nodup
  up : (rs.map fun r => r.headD 0).Pairwise (· < ·)
theorem IsLots.ok (hs : Single bs) {rs : List (List Nat)} (h : IsLots bs hand rs) : LotsOk rs := by
  refine ⟨fun r hr => ?_, fun r hr => ?_, fun r hr t ht x hx hy => ?_, h.nd⟩
  · obtain ⟨u, hu, rfl⟩ := (h.mem r).mp hr
    intro z
    have := arnd_self hu.1.1
    rw [z] at this
    cases this
  · obtain ⟨u, hu, rfl⟩ := (h.mem r).mp hr
    exact arnd_lt _ _
  · obtain ⟨u, hu, rfl⟩ := (h.mem r).mp hr
    obtain ⟨v, hv, rfl⟩ := (h.mem t).mp ht
    rw [← hu.2 x hx, ← hv.2 x hy]
theorem IsLots.first (hs : Single bs) {rs : List (List Nat)} (h : IsLots bs hand rs) : First bs hand (rs.map fun r => r.headD 0) := by
  have ok := h.ok hs
  have hits : ∀ br, OpensB bs hand br ↔ Hits br rs := fun br => by
    rw [opens_iff hs]
    constructor
    · intro z r hr
      obtain ⟨u, hu, rfl⟩ := (h.mem r).mp hr
      exact z u hu
    · intro z u hu
      exact z _ ((h.mem _).mpr ⟨u, hu, rfl⟩)
  have hd : ∀ r ∈ rs, r.headD 0 ∈ r := fun r hr => by
    cases e : r with
    | nil => exact absurd e (ok.ne r hr)
    | cons a t => exact List.mem_cons_self ..
  refine ⟨h.up, fun i hi => ?_, (hits _).mpr fun r hr => ⟨r.headD 0, List.mem_map.mpr ⟨r, hr, rfl⟩, hd r hr⟩, fun br b1 b2 b3 => ?_⟩
  · obtain ⟨r, hr, rfl⟩ := List.mem_map.mp hi
    have h1 := hd r hr
    obtain ⟨u, hu, rfl⟩ := (h.mem r).mp hr
    exact (mem_arnd.mp h1).1
  · have hb := (hits br).mp b3
    have hl := hits_len ok hb
    rw [List.length_map]
    rcases Nat.lt_or_ge rs.length br.length with z | z
    · exact .inl z
    · exact .inr ⟨by omega, lex_heads ok h.up b1 hb (by omega)⟩
end
end Kw
set_option Elab.async false
set_option linter.all false
set_option maxRecDepth 100000
set_option maxHeartbeats 4000000
namespace Kw
/-! ### layings: the mathematics -/
theorem len_le_of_sub {α : Type} [DecidableEq α] : ∀ {l m : List α}, l.Nodup → (∀ x ∈ l, x ∈ m) → l.length ≤ m.length
  | [], _, _, _ => Nat.zero_le _
  | a :: r, m, nd, h => by
    have ha := h a (List.mem_cons_self ..)
    have nd' := List.nodup_cons.mp nd
    have h1 : ∀ x ∈ r, x ∈ m.erase a := fun x hx => (List.mem_erase_of_ne (by rintro rfl; exact nd'.1 hx)).mpr (h x (List.mem_cons_of_mem _ hx))
    have h2 := len_le_of_sub nd'.2 h1
    rw [List.length_erase_of_mem ha] at h2
    have := List.length_pos_of_mem ha
    rw [List.length_cons]
    omega
theorem mem_of_full {α : Type} [DecidableEq α] {l m : List α} (nd : l.Nodup) (h : ∀ x ∈ l, x ∈ m) (hl : m.length ≤ l.length) : ∀ x ∈ m, x ∈ l := fun x hx => by
  by_cases z : x ∈ l
  · exact z
  · exfalso
    have := len_le_of_sub (l := x :: l) (m := m) (List.nodup_cons.mpr ⟨z, nd⟩) fun y hy => by
      rcases List.mem_cons.mp hy with rfl | hy
      · exact hx
      · exact h y hy
    rw [List.length_cons] at this
    omega
theorem perm_of_full {α : Type} [DecidableEq α] {l m : List α} (nd : l.Nodup) (nm : m.Nodup) (h : ∀ x ∈ l, x ∈ m) (hl : m.length ≤ l.length) : l.Perm m :=
  (List.perm_ext_iff_of_nodup nd nm).mpr fun a => ⟨h a, mem_of_full nd h hl a⟩
theorem nodup_of_count {α : Type} [DecidableEq α] : ∀ {m l : List α}, m.Nodup → (∀ x ∈ m, x ∈ l) → l.length ≤ m.length → l.Nodup
  | [], l, _, _, hl => by
    have : l = [] := List.eq_nil_of_length_eq_zero (by simpa using hl)
    subst this
    exact List.nodup_nil
  | a :: r, l, nd, h, hl => by
    have nd' := List.nodup_cons.mp nd
    have ha := h a (List.mem_cons_self ..)
    have h1 : ∀ x ∈ r, x ∈ l.erase a := fun x hx => (List.mem_erase_of_ne (by rintro rfl; exact nd'.1 hx)).mpr (h x (List.mem_cons_of_mem _ hx))
    have h2 : (l.erase a).length ≤ r.length := by
      rw [List.length_erase_of_mem ha]
      rw [List.length_cons] at hl
      omega
    refine (List.perm_cons_erase ha).nodup_iff.mpr (List.nodup_cons.mpr ⟨fun z => ?_, nodup_of_count nd'.2 h1 h2⟩)
    have := len_le_of_sub (m := l.erase a) nd fun x hx => by
      rcases List.mem_cons.mp hx with rfl | hx
      · exact z
      · exact h1 x hx
    rw [List.length_cons] at this
    omega
abbrev IsLay (lay : List Nat) : Prop := lay.Perm (List.range lay.length)
def nx (lay : List Nat) (i : Nat) : Nat := lay.getD i 0
def it (lay : List Nat) : Nat → Nat → Nat
  | 0, i => i
  | k + 1, i => nx lay (it lay k i)
section
variable {lay : List Nat} {i j k m n : Nat}
theorem nx_get (h : i < lay.length) : lay[i]? = some (nx lay i) := by
  unfold nx
  rw [List.getD_eq_getElem?_getD, List.getElem?_eq_getElem h]
  rfl
theorem IsLay.nodup (h : IsLay lay) : lay.Nodup := h.nodup_iff.mpr List.nodup_range
theorem IsLay.lt (h : IsLay lay) (hi : i < lay.length) : nx lay i < lay.length := List.mem_range.mp (h.mem_iff.mp (List.mem_of_getElem? (nx_get hi)))
theorem IsLay.inj (h : IsLay lay) (hi : i < lay.length) (hj : j < lay.length) (e : nx lay i = nx lay j) : i = j := by
  have h1 := nx_get hi
  rw [e] at h1
  exact (List.getElem?_inj hi h.nodup).mp (h1.trans (nx_get hj).symm)
theorem IsLay.it_lt (h : IsLay lay) (hi : i < lay.length) : ∀ k, it lay k i < lay.length
  | 0 => hi
  | k + 1 => h.lt (h.it_lt hi k)
theorem it_add (lay : List Nat) (k m i : Nat) : it lay (k + m) i = it lay k (it lay m i) := by
  induction k with
  | zero => rw [Nat.zero_add]; rfl
  | succ k ih => rw [Nat.succ_add]; show nx lay _ = nx lay _; rw [ih]
theorem IsLay.it_inj (h : IsLay lay) (hi : i < lay.length) (hj : j < lay.length) : ∀ k, it lay k i = it lay k j → i = j
  | 0, e => e
  | k + 1, e => h.it_inj hi hj k (h.inj (h.it_lt hi k) (h.it_lt hj k) e)
/-- it comes back -/
theorem nodup_map_range {f : Nat → Nat} : ∀ {n : Nat}, (∀ a b, a < b → b < n → f a ≠ f b) → ((List.range n).map f).Nodup := fun {n} h => by
  rw [List.nodup_iff_pairwise_ne, List.pairwise_map]
  refine List.Pairwise.imp_of_mem ?_ (List.pairwise_lt_range (n := n))
  intro a b _ hb hab
  exact h a b hab (List.mem_range.mp hb)
theorem IsLay.back (h : IsLay lay) (hi : i < lay.length) : ∃ k, k < lay.length ∧ it lay (k + 1) i = i := by
  by_cases z : ∃ k, k < lay.length ∧ it lay (k + 1) i = i
  · exact z
  · exfalso
    have nd : ((List.range (lay.length + 1)).map fun k => it lay k i).Nodup := nodup_map_range fun a b hab hb e => by
      obtain ⟨c, rfl⟩ := Nat.exists_eq_add_of_lt hab
      have e2 : it lay a (it lay (c + 1) i) = it lay a i := by
        rw [← it_add, ← Nat.add_assoc]
        exact e.symm
      exact z ⟨c, by omega, h.it_inj (h.it_lt hi _) hi a e2⟩
    have := len_le_of_sub (m := List.range lay.length) nd fun x hx => by
      obtain ⟨k, _, rfl⟩ := List.mem_map.mp hx
      exact List.mem_range.mpr (h.it_lt hi k)
    rw [List.length_map, List.length_range, List.length_range] at this
    omega
def per (lay : List Nat) (i : Nat) : Nat := ((List.range lay.length).find? fun k => decide (it lay (k + 1) i = i)).getD 0 + 1
theorem find_range {p : Nat → Bool} : ∀ {n : Nat}, (∃ k, k < n ∧ p k = true) → ∃ k, (List.range n).find? p = some k ∧ k < n ∧ p k = true ∧ ∀ j, j < k → p j = false := fun {n} => by
  induction n with
  | zero => rintro ⟨k, h, _⟩; exact absurd h (Nat.not_lt_zero _)
  | succ n ih =>
    rintro ⟨k, h1, h2⟩
    rw [List.range_succ, List.find?_append]
    by_cases z : ∃ k, k < n ∧ p k = true
    · obtain ⟨k, a, b, c, d⟩ := ih z
      exact ⟨k, by rw [a]; rfl, by omega, c, d⟩
    · have hn : (List.range n).find? p = none := List.find?_eq_none.mpr fun x hx hp => z ⟨x, List.mem_range.mp hx, hp⟩
      have hk : k = n := by
        by_cases y : k < n
        · exact absurd ⟨k, y, h2⟩ z
        · omega
      subst hk
      refine ⟨k, by rw [hn]; simp [h2], by omega, h2, fun j hj => ?_⟩
      cases hp : p j with
      | false => rfl
      | true => exact absurd ⟨j, hj, hp⟩ z
theorem IsLay.per (h : IsLay lay) (hi : i < lay.length) : 1 ≤ per lay i ∧ per lay i ≤ lay.length ∧ it lay (per lay i) i = i ∧ ∀ q, 1 ≤ q → q < per lay i → it lay q i ≠ i := by
  obtain ⟨k, h1, h2, h3, h4⟩ := find_range (p := fun k => decide (it lay (k + 1) i = i)) (n := lay.length) (by
    obtain ⟨k, a, b⟩ := h.back hi
    exact ⟨k, a, decide_eq_true b⟩)
  have e : Kw.per lay i = k + 1 := by
    unfold Kw.per
    rw [h1]
    rfl
  rw [e]
  refine ⟨by omega, by omega, of_decide_eq_true h3, fun q q1 q2 => ?_⟩
  have := of_decide_eq_false (h4 (q - 1) (by omega))
  rwa [show q - 1 + 1 = q by omega] at this
def orb (lay : List Nat) (i : Nat) : List Nat := (List.range (per lay i)).map fun k => it lay k i
theorem IsLay.it_ne (h : IsLay lay) (hi : i < lay.length) {a b : Nat} (hab : a < b) (hb : b < Kw.per lay i) : it lay a i ≠ it lay b i := fun e => by
  obtain ⟨c, rfl⟩ := Nat.exists_eq_add_of_lt hab
  have e2 : it lay a (it lay (c + 1) i) = it lay a i := by
    rw [← it_add, ← Nat.add_assoc]
    exact e.symm
  exact (h.per hi).2.2.2 (c + 1) (by omega) (by omega) (h.it_inj (h.it_lt hi _) hi a e2)
theorem IsLay.orb_nodup (h : IsLay lay) (hi : i < lay.length) : (orb lay i).Nodup := nodup_map_range fun _ _ hab hb => h.it_ne hi hab hb
theorem IsLay.it_mod (h : IsLay lay) (hi : i < lay.length) : ∀ k, it lay (k + Kw.per lay i) i = it lay k i := fun k => by rw [it_add, (h.per hi).2.2.1]
theorem IsLay.it_mul (h : IsLay lay) (hi : i < lay.length) : ∀ m k, it lay (k + m * Kw.per lay i) i = it lay k i
  | 0, k => by rw [Nat.zero_mul, Nat.add_zero]
  | m + 1, k => by rw [Nat.succ_mul, ← Nat.add_assoc, h.it_mod hi, h.it_mul hi m]
theorem IsLay.mem_orb (h : IsLay lay) (hi : i < lay.length) {y : Nat} : y ∈ orb lay i ↔ ∃ k, y = it lay k i := by
  constructor
  · intro hy
    obtain ⟨k, _, rfl⟩ := List.mem_map.mp hy
    exact ⟨k, rfl⟩
  · rintro ⟨k, rfl⟩
    have p1 := (h.per hi).1
    refine List.mem_map.mpr ⟨k % Kw.per lay i, List.mem_range.mpr (Nat.mod_lt _ (by omega)), ?_⟩
    show it lay (k % Kw.per lay i) i = it lay k i
    conv => rhs; rw [← Nat.mod_add_div k (Kw.per lay i), Nat.mul_comm, h.it_mul hi]
theorem IsLay.orb_self (h : IsLay lay) (hi : i < lay.length) : i ∈ orb lay i := (h.mem_orb hi).mpr ⟨0, rfl⟩
theorem IsLay.orb_lt (h : IsLay lay) (hi : i < lay.length) {y : Nat} (hy : y ∈ orb lay i) : y < lay.length := by
  obtain ⟨k, rfl⟩ := (h.mem_orb hi).mp hy
  exact h.it_lt hi k
/-- from any of it one comes back -/
theorem IsLay.orb_back (h : IsLay lay) (hi : i < lay.length) (k : Nat) : ∃ t, it lay t (it lay k i) = i := by
  have p1 := (h.per hi).1
  refine ⟨k * Kw.per lay i - k, ?_⟩
  rw [← it_add]
  have : k ≤ k * Kw.per lay i := Nat.le_mul_of_pos_right k (by omega)
  rw [show k * Kw.per lay i - k + k = 0 + k * Kw.per lay i by omega, h.it_mul hi]
  rfl
theorem IsLay.orb_symm (h : IsLay lay) (hi : i < lay.length) (hj : j < lay.length) (hm : j ∈ orb lay i) : i ∈ orb lay j := by
  obtain ⟨k, rfl⟩ := (h.mem_orb hi).mp hm
  obtain ⟨t, ht⟩ := h.orb_back hi k
  exact (h.mem_orb hj).mpr ⟨t, ht.symm⟩
theorem IsLay.orb_trans (h : IsLay lay) (hi : i < lay.length) (hj : j < lay.length) (hm : j ∈ orb lay i) {y : Nat} (hy : y ∈ orb lay j) : y ∈ orb lay i := by
  obtain ⟨k, rfl⟩ := (h.mem_orb hi).mp hm
  obtain ⟨t, rfl⟩ := (h.mem_orb hj).mp hy
  exact (h.mem_orb hi).mpr ⟨t + k, (it_add ..).symm⟩
/-- the least of its round -/
def inB (lay : List Nat) (n y : Nat) : Bool := (List.range n).any fun j => decide (y ∈ orb lay j)
def cycs (lay : List Nat) (n : Nat) : List (List Nat) := ((List.range n).filter fun i => !inB lay i i).map (orb lay)
def cycles (lay : List Nat) : List (List Nat) := cycs lay lay.length
theorem inB_succ (lay : List Nat) (n y : Nat) : inB lay (n + 1) y = (inB lay n y || decide (y ∈ orb lay n)) := by
  unfold inB
  rw [List.range_succ, List.any_append]
  simp
theorem inB_iff {lay : List Nat} {n y : Nat} : inB lay n y = true ↔ ∃ j, j < n ∧ y ∈ orb lay j := by
  unfold inB
  rw [List.any_eq_true]
  exact ⟨fun ⟨j, h1, h2⟩ => ⟨j, List.mem_range.mp h1, of_decide_eq_true h2⟩, fun ⟨j, h1, h2⟩ => ⟨j, List.mem_range.mpr h1, decide_eq_true h2⟩⟩
theorem cycs_succ (lay : List Nat) (n : Nat) : cycs lay (n + 1) = if inB lay n n then cycs lay n else cycs lay n ++ [orb lay n] := by
  unfold cycs
  rw [List.range_succ, List.filter_append, List.map_append]
  cases h : inB lay n n <;> simp [h]
/-- a box that was come to brings nothing new -/
theorem IsLay.old (h : IsLay lay) (hn : n < lay.length) (hb : inB lay n n = true) (y : Nat) : inB lay (n + 1) y = inB lay n y := by
  rw [inB_succ]
  cases hy : inB lay n y with
  | true => rfl
  | false =>
    rw [Bool.false_or]
    refine decide_eq_false fun z => ?_
    obtain ⟨j, h1, h2⟩ := inB_iff.mp hb
    have : inB lay n y = true := inB_iff.mpr ⟨j, h1, h.orb_trans (by omega) hn h2 z⟩
    rw [hy] at this
    cases this
/-- a new one's round is new whole -/
theorem IsLay.new (h : IsLay lay) (hn : n < lay.length) (hb : inB lay n n = false) (k : Nat) : inB lay n (it lay k n) = false := by
  cases hy : inB lay n (it lay k n) with
  | false => rfl
  | true =>
    obtain ⟨j, h1, h2⟩ := inB_iff.mp hy
    obtain ⟨t, ht⟩ := h.orb_back hn k
    have hj : j < lay.length := by omega
    have : n ∈ orb lay j := h.orb_trans hj (h.it_lt hn k) h2 ((h.mem_orb (h.it_lt hn k)).mpr ⟨t, ht.symm⟩)
    have : inB lay n n = true := inB_iff.mpr ⟨j, h1, this⟩
    rw [hb] at this
    cases this
end
end Kw
set_option Elab.async false
set_option linter.all false
set_option maxRecDepth 100000
set_option maxHeartbeats 4000000
namespace Kw
open PySem
/-! ### what stays shut, and what opens -/
def unl (bs : List Box) (br : List Nat) : List Box := (List.range bs.length).map fun i => if i ∈ br then ([], (bx bs i).2) else bx bs i
theorem unl_len (bs : List Box) (br : List Nat) : (unl bs br).length = bs.length := by
  unfold unl
  rw [List.length_map, List.length_range]
section
variable {bs : List Box} {hand : List Str} {br : List Nat}
theorem bx_unl (hb : ∀ i ∈ br, i < bs.length) (j : Nat) : bx (unl bs br) j = if j ∈ br then ([], (bx bs j).2) else bx bs j := by
  by_cases h : j < bs.length
  · have e : (unl bs br)[j]? = some (if j ∈ br then ([], (bx bs j).2) else bx bs j) := by
      unfold unl
      rw [List.getElem?_map, List.getElem?_range h]
      rfl
    conv => lhs; unfold bx
    rw [List.getD_eq_getElem?_getD, e]
    rfl
  · rw [if_neg (fun z => h (hb j z))]
    unfold bx
    rw [List.getD_eq_getElem?_getD, List.getD_eq_getElem?_getD, List.getElem?_eq_none (by rw [unl_len]; omega), List.getElem?_eq_none (by omega)]
theorem keysIn_unl (hb : ∀ i ∈ br, i < bs.length) (is : List Nat) : keysIn (unl bs br) is = keysIn bs is := by
  unfold keysIn
  congr 1
  funext i
  rw [bx_unl hb]
  split <;> rfl
theorem roundsF_unl (hb : ∀ i ∈ br, i < bs.length) : ∀ (n : Nat) (held : List Str) (closed : List Nat), (∀ i ∈ closed, i ∉ br) → roundsF (unl bs br) n held closed = roundsF bs n held closed
  | 0, _, _, _ => rfl
  | n + 1, held, closed, hc => by
    have hr : readyOf (unl bs br) held closed = readyOf bs held closed := by
      unfold readyOf
      apply List.filter_congr
      intro i hi
      rw [bx_unl hb, if_neg (hc i hi)]
    show (if readyOf (unl bs br) held closed = [] then [] else readyOf (unl bs br) held closed :: roundsF (unl bs br) n (held ++ keysIn (unl bs br) (readyOf (unl bs br) held closed)) (less closed (readyOf (unl bs br) held closed))) = _
    rw [hr, keysIn_unl hb, roundsF_unl hb n (held ++ keysIn bs (readyOf bs held closed)) (less closed (readyOf bs held closed)) fun i hi => hc i (List.mem_filter.mp hi).1]
    rfl
theorem less_two (c r s : List Nat) : less (less c r) s = less c (r ++ s) := by
  unfold less
  rw [List.filter_filter]
  apply List.filter_congr
  intro i _
  by_cases h1 : i ∈ r <;> by_cases h2 : i ∈ s <;> simp [h1, h2]
theorem shutOf_unl (hb : ∀ i ∈ br, i < bs.length) : shutOf bs hand br = shutOf (unl bs br) hand [] := by
  have hcl : ∀ i ∈ less (List.range bs.length) br, i < bs.length ∧ i ∉ br := fun i hi => by
    have h := List.mem_filter.mp hi
    refine ⟨List.mem_range.mp h.1, fun z => ?_⟩
    rw [decide_eq_true z] at h
    cases h.2
  have hs : Seq (unl bs br) hand br := fun i hi => ⟨by rw [unl_len]; exact hb i hi, Op.closed _ _ i (by rw [unl_len]; exact hb i hi) fun c hc => by
    rw [bx_unl hb, if_pos hi] at hc
    cases hc⟩
  have h := rounds_seq (unl bs br) hand ((less (List.range bs.length) br).length + 1) br (less (List.range bs.length) br) (Nat.lt_succ_self _) hs (fun i hi => by rw [unl_len]; exact (hcl i hi).1) (fun i hi => by
      rw [unl_len] at hi
      by_cases hm : i ∈ br
      · exact .inl hm
      · exact .inr (List.mem_filter.mpr ⟨List.mem_range.mpr hi, by rw [decide_eq_false hm]; rfl⟩)) (List.Pairwise.filter _ List.nodup_range) (fun i hi hc => (hcl i hc).2 hi)
  rw [keysIn_unl hb, roundsF_unl hb _ _ _ fun i hi => (hcl i hi).2] at h
  have e := less_same h.1 h.2.2.2
  rw [← e, unl_len, ← less_two]
  rfl
theorem closed_unl (hb : ∀ i ∈ br, i < bs.length) {S : Nat → Prop} : Closed (unl bs br) hand S ↔ ClosedB bs hand br S := by
  constructor
  · intro h
    refine ⟨fun i hi => h i (by rw [unl_len]; exact hb i hi) fun c hc => ?_, fun i hi hc => ?_⟩
    · rw [bx_unl hb, if_pos hi] at hc
      cases hc
    · refine h i (by rw [unl_len]; exact hi) fun c hc2 => ?_
      by_cases m : i ∈ br
      · rw [bx_unl hb, if_pos m] at hc2
        cases hc2
      · rw [bx_unl hb, if_neg m] at hc2
        refine (hc c hc2).imp id fun ⟨j, h1, h2, h3⟩ => ⟨j, by rw [unl_len]; exact h1, h2, ?_⟩
        rw [bx_unl hb]
        split <;> exact h3
  · rintro ⟨h1, h2⟩ i hi hc
    rw [unl_len] at hi
    by_cases m : i ∈ br
    · exact h1 i m
    · refine h2 i hi fun c hc2 => ?_
      refine (hc c (by rw [bx_unl hb, if_neg m]; exact hc2)).imp id fun ⟨j, g1, g2, g3⟩ => ⟨j, by rw [unl_len] at g1; exact g1, g2, ?_⟩
      rw [bx_unl hb] at g3
      split at g3 <;> exact g3
theorem mem_shutB (hb : ∀ i ∈ br, i < bs.length) {i : Nat} : i ∈ shutOf bs hand br ↔ i < bs.length ∧ ¬ OpB bs hand br i := by
  rw [shutOf_unl hb, mem_shut, unl_len]
  refine and_congr_right fun _ => not_congr ⟨fun h S hS => h S ((closed_unl hb).mpr hS), fun h S hS => h S ((closed_unl hb).mp hS)⟩
theorem opens_shut (hb : ∀ i ∈ br, i < bs.length) : shutOf bs hand br = [] ↔ OpensB bs hand br := by
  constructor
  · intro h i hi
    refine Classical.byContradiction fun z => ?_
    have := (mem_shutB hb).mpr ⟨hi, z⟩
    rw [h] at this
    cases this
  · intro h
    refine List.eq_nil_iff_forall_not_mem.mpr fun i hi => ?_
    have z := (mem_shutB hb).mp hi
    exact z.2 (h i z.1)
/-! ### boxes that open anyway need not be broken -/
theorem opens_less (hS : ∀ i, i ∈ br → Op bs hand i ∨ i ∈ (br.filter fun i => decide (i ∈ shutOf bs hand []))) (h : OpensB bs hand br) : OpensB bs hand (br.filter fun i => decide (i ∈ shutOf bs hand [])) := fun i hi S hC => h i hi S ⟨fun j hj => (hS j hj).elim (fun z => z S hC.2) fun z => hC.1 j z, hC.2⟩
theorem opens_in (hb : ∀ i ∈ br, i < bs.length) (h : OpensB bs hand br) : OpensB bs hand (br.filter fun i => decide (i ∈ shutOf bs hand [])) := by
  refine opens_less (fun i hi => ?_) h
  by_cases z : i ∈ shutOf bs hand []
  · exact .inr (List.mem_filter.mpr ⟨hi, decide_eq_true z⟩)
  · exact .inl (Classical.byContradiction fun y => z (mem_shut.mpr ⟨hb i hi, y⟩))
theorem opens_stuck : OpensB bs hand (shutOf bs hand []) := fun i hi => by
  by_cases z : Op bs hand i
  · exact z.opB
  · exact (OpB.closed bs hand _).1 i (mem_shut.mpr ⟨hi, z⟩)
end
/-! ### all rising tuples of so many -/
def after (r : List Nat) (b : Nat) : Bool := match r.getLast? with
  | none => true
  | some l => decide (l < b)
def cstep (S r : List Nat) : List (List Nat) := (S.filter fun b => after r b).map fun b => r ++ [b]
def combs (S : List Nat) : Nat → List (List Nat)
  | 0 => [[]]
  | m + 1 => (combs S m).flatMap (cstep S)
theorem after_iff {r : List Nat} (hp : r.Pairwise (· < ·)) {b : Nat} : after r b = true ↔ ∀ x ∈ r, x < b := by
  unfold after
  cases h : r.getLast? with
  | none =>
    rw [List.getLast?_eq_none_iff.mp h]
    simp
  | some l =>
    obtain ⟨s, rfl⟩ := List.getLast?_eq_some_iff.mp h
    have z := List.pairwise_append.mp hp
    show decide (l < b) = true ↔ _
    rw [decide_eq_true_eq]
    constructor
    · intro hl x hx
      rcases List.mem_append.mp hx with y | y
      · have := z.2.2 x y l (List.mem_singleton.mpr rfl)
        omega
      · rw [List.mem_singleton.mp y]
        exact hl
    · exact fun hx => hx l (List.mem_append.mpr (.inr (List.mem_singleton.mpr rfl)))
theorem mem_combs {S : List Nat} : ∀ {m : Nat} {r : List Nat}, r ∈ combs S m ↔ r.length = m ∧ r.Pairwise (· < ·) ∧ ∀ x ∈ r, x ∈ S
  | 0, r => by
    show r ∈ [[]] ↔ _
    rw [List.mem_singleton]
    constructor
    · rintro rfl
      exact ⟨rfl, .nil, fun x hx => by cases hx⟩
    · exact fun h => List.eq_nil_of_length_eq_zero h.1
  | m + 1, r => by
    show r ∈ (combs S m).flatMap (cstep S) ↔ _
    rw [List.mem_flatMap]
    constructor
    · rintro ⟨q, hq, hr⟩
      obtain ⟨h1, h2, h3⟩ := mem_combs.mp hq
      obtain ⟨b, hb, rfl⟩ := List.mem_map.mp hr
      obtain ⟨b1, b2⟩ := List.mem_filter.mp hb
      refine ⟨by rw [List.length_append, h1]; rfl, List.pairwise_append.mpr ⟨h2, List.pairwise_singleton _ _, fun x hx y hy => ?_⟩, fun x hx => ?_⟩
      · rw [List.mem_singleton.mp hy]
        exact (after_iff h2).mp b2 x hx
      · rcases List.mem_append.mp hx with z | z
        · exact h3 x z
        · rw [List.mem_singleton.mp z]
          exact b1
    · rintro ⟨h1, h2, h3⟩
      have hne : r ≠ [] := fun z => by rw [z] at h1; cases h1
      have e := List.dropLast_concat_getLast hne
      generalize r.dropLast = q at e
      generalize r.getLast hne = b at e
      subst e
      have hp := List.pairwise_append.mp h2
      have hl : q.length = m := by
        rw [List.length_append] at h1
        exact Nat.succ.inj h1
      exact ⟨q, mem_combs.mpr ⟨hl, hp.1, fun x hx => h3 x (List.mem_append.mpr (.inl hx))⟩, List.mem_map.mpr ⟨b, List.mem_filter.mpr ⟨h3 b (List.mem_append.mpr (.inr (List.mem_singleton.mpr rfl))), (after_iff hp.1).mpr fun x hx => hp.2.2 x hx b (List.mem_singleton.mpr rfl)⟩, rfl⟩⟩
theorem lex_app : ∀ {r t : List Nat} {x y : Nat}, r.length = t.length → LexLt r t → LexLt (r ++ [x]) (t ++ [y])
  | [], [], _, _, _, h => h.elim
  | [], _ :: _, _, _, h, _ => by cases h
  | _ :: _, [], _, _, h, _ => by cases h
  | a :: r, b :: t, x, y, hl, h => h.imp id fun ⟨h1, h2⟩ => ⟨h1, lex_app (Nat.succ.inj hl) h2⟩
theorem lex_same : ∀ {r : List Nat} {x y : Nat}, x < y → LexLt (r ++ [x]) (r ++ [y])
  | [], x, y, h => .inl h
  | a :: r, x, y, h => .inr ⟨rfl, lex_same h⟩
theorem lex_asymm : ∀ {a b : List Nat}, LexLt a b → LexLt b a → False
  | [], [], h, _ => h
  | [], _ :: _, _, h => h
  | _ :: _, [], h, _ => h
  | x :: r, y :: t, h1, h2 => by
    rcases h1 with h1 | ⟨e1, h1⟩
    · rcases h2 with h2 | ⟨e2, h2⟩ <;> omega
    · rcases h2 with h2 | ⟨e2, h2⟩
      · omega
      · exact lex_asymm h1 h2
theorem combs_up {S : List Nat} (hS : S.Pairwise (· < ·)) : ∀ m, (combs S m).Pairwise LexLt
  | 0 => List.pairwise_singleton _ _
  | m + 1 => by
    show ((combs S m).flatMap (cstep S)).Pairwise LexLt
    rw [List.pairwise_flatMap]
    refine ⟨fun r hr => ?_, (combs_up hS m).imp_of_mem fun {a b} ha hb h x hx y hy => ?_⟩
    · unfold cstep
      exact List.pairwise_map.mpr ((hS.filter _).imp fun {a b} z => lex_same z)
    · obtain ⟨c, _, rfl⟩ := List.mem_map.mp hx
      obtain ⟨d, _, rfl⟩ := List.mem_map.mp hy
      exact lex_app ((mem_combs.mp ha).1.trans (mem_combs.mp hb).1.symm) h
/-- how many there are -/
def subs : List Nat → List (List Nat)
  | [] => [[]]
  | a :: l => subs l ++ (subs l).map (a :: ·)
theorem subs_len : ∀ l, (subs l).length = 2 ^ l.length
  | [] => rfl
  | a :: l => by
    show (subs l ++ (subs l).map (a :: ·)).length = 2 ^ (l.length + 1)
    rw [List.length_append, List.length_map, subs_len l, Nat.pow_succ]
    omega
theorem mem_subs : ∀ {S r : List Nat}, S.Pairwise (· < ·) → r.Pairwise (· < ·) → (∀ x ∈ r, x ∈ S) → r ∈ subs S
  | [], r, _, _, h => by
    cases r with
    | nil => exact List.mem_singleton.mpr rfl
    | cons a t => exact absurd (h a (List.mem_cons_self ..)) (by simp)
  | a :: S, [], hS, _, _ => List.mem_append.mpr (.inl (mem_subs (List.pairwise_cons.mp hS).2 .nil fun x hx => by cases hx))
  | a :: S, b :: r, hS, hr, h => by
    have hS' := List.pairwise_cons.mp hS
    have hr' := List.pairwise_cons.mp hr
    by_cases e : b = a
    · subst e
      refine List.mem_append.mpr (.inr (List.mem_map.mpr ⟨r, mem_subs hS'.2 hr'.2 fun x hx => ?_, rfl⟩))
      rcases List.mem_cons.mp (h x (List.mem_cons_of_mem _ hx)) with z | z
      · have := hr'.1 x hx
        omega
      · exact z
    · have hb : b ∈ S := (List.mem_cons.mp (h b (List.mem_cons_self ..))).resolve_left e
      have hab := hS'.1 b hb
      refine List.mem_append.mpr (.inl (mem_subs hS'.2 hr fun x hx => ?_))
      rcases List.mem_cons.mp (h x hx) with z | z
      · exfalso
        rcases List.mem_cons.mp hx with y | y
        · omega
        · have := hr'.1 x y
          omega
      · exact z
theorem combs_len {S : List Nat} (hS : S.Pairwise (· < ·)) (hl : S.length ≤ 10) (m : Nat) : (combs S m).length ≤ 1024 := by
  have nd : (combs S m).Nodup := List.nodup_iff_pairwise_ne.mpr ((combs_up hS m).imp fun {a b} z => (fun (e : a = b) => by subst e; exact lex_irr a z))
  have h := len_le_of_sub (m := subs S) nd fun r hr => mem_subs hS (mem_combs.mp hr).2.1 (mem_combs.mp hr).2.2
  rw [subs_len] at h
  have : 2 ^ S.length ≤ 2 ^ 10 := Nat.pow_le_pow_right (by decide) hl
  omega
/-! ### the first that is found by trial -/
section
variable {bs : List Box} {hand : List Str}
theorem shut_up (br : List Nat) : (shutOf bs hand br).Pairwise (· < ·) := by
  unfold shutOf less
  exact (List.pairwise_lt_range.filter _).filter _
theorem shut_lt (br : List Nat) : ∀ i ∈ shutOf bs hand br, i < bs.length := fun i hi => by
  unfold shutOf less at hi
  exact List.mem_range.mp (List.mem_filter.mp (List.mem_filter.mp hi).1).1
/-- none of fewer opens all, none of as many ahead of it -/
theorem first_of {m : Nat} {pre post : List (List Nat)} {ls : List Nat} (hl : combs (shutOf bs hand []) m = pre ++ ls :: post) (less : ∀ j < m, ∀ r ∈ combs (shutOf bs hand []) j, ¬ OpensB bs hand r) (no : ∀ r ∈ pre, ¬ OpensB bs hand r) (op : OpensB bs hand ls) : First bs hand ls := by
  have hm : ls ∈ combs (shutOf bs hand []) m := by rw [hl]; exact List.mem_append.mpr (.inr (List.mem_cons_self ..))
  obtain ⟨l1, l2, l3⟩ := mem_combs.mp hm
  refine ⟨l2, fun i hi => shut_lt [] i (l3 i hi), op, fun br hp hb ho => ?_⟩
  have h2 := opens_in hb ho
  have hc : (br.filter fun i => decide (i ∈ shutOf bs hand [])) ∈ combs (shutOf bs hand []) (br.filter fun i => decide (i ∈ shutOf bs hand [])).length := mem_combs.mpr ⟨rfl, hp.filter _, fun x hx => of_decide_eq_true (List.mem_filter.mp hx).2⟩
  have hle : (br.filter fun i => decide (i ∈ shutOf bs hand [])).length ≤ br.length := List.length_filter_le _ _
  have hge : m ≤ (br.filter fun i => decide (i ∈ shutOf bs hand [])).length := Nat.le_of_not_lt fun z => less _ z _ hc h2
  rcases Nat.lt_or_ge m br.length with z | z
  · exact .inl (by omega)
  · have e : (br.filter fun i => decide (i ∈ shutOf bs hand [])) = br := (List.filter_sublist (p := fun i => decide (i ∈ shutOf bs hand []))).eq_of_length_le (by omega)
    rw [e] at hc hge
    have em : br.length = m := by omega
    rw [em, hl] at hc
    refine .inr ⟨by omega, fun hlt => ?_⟩
    have up := combs_up (shut_up (bs := bs) (hand := hand) []) m
    rw [hl] at up
    have up' := List.pairwise_append.mp up
    rcases List.mem_append.mp hc with y | y
    · exact no br y ho
    · rcases List.mem_cons.mp y with y | y
      · rw [y] at hlt
        exact lex_irr _ hlt
      · have := (List.pairwise_cons.mp up'.2.1).1 br y
        exact lex_asymm this hlt
theorem first_all (less : ∀ j < (shutOf bs hand []).length, ∀ r ∈ combs (shutOf bs hand []) j, ¬ OpensB bs hand r) : First bs hand (shutOf bs hand []) := by
  have hm : shutOf bs hand [] ∈ combs (shutOf bs hand []) (shutOf bs hand []).length := mem_combs.mpr ⟨rfl, shut_up [], fun x hx => hx⟩
  obtain ⟨pre, post, e⟩ := List.append_of_mem hm
  by_cases z : ∀ r ∈ pre, ¬ OpensB bs hand r
  · exact first_of e less z opens_stuck
  · exfalso
    have up := combs_up (shut_up (bs := bs) (hand := hand) []) (shutOf bs hand []).length
    obtain ⟨r, hr⟩ := Classical.not_forall.mp z
    obtain ⟨r1, r2⟩ := Classical.not_imp.mp hr
    have hrm : r ∈ combs (shutOf bs hand []) (shutOf bs hand []).length := by rw [e]; exact List.mem_append.mpr (.inl r1)
    obtain ⟨q1, q2, q3⟩ := mem_combs.mp hrm
    have er : r = shutOf bs hand [] := by
      refine rising_eq q2 (shut_up []) fun x => ⟨q3 x, fun hx => ?_⟩
      refine Classical.byContradiction fun hn => ?_
      have := sub_len (nodup_lt q2) q3 ⟨x, hx, hn⟩
      omega
    rw [e] at up
    have := (List.pairwise_append.mp up).2.2 r r1 _ (List.mem_cons_self ..)
    rw [er] at this
    exact lex_irr _ this
end
end Kw
set_option Elab.async false
set_option linter.all false
set_option maxRecDepth 100000
set_option maxHeartbeats 4000000
namespace Kw
open PySem
/-! ### whether all boxes of a kept house can be opened, by rounds -/
theorem rounds_less (bs : List Box) : ∀ (n : Nat) (held : List Str) (closed : List Nat), (roundsF bs n held closed).flatten.length + (less closed (roundsF bs n held closed).flatten).length = closed.length
  | 0, _, closed => by
    show 0 + (less closed []).length = _
    have : less closed [] = closed := List.filter_eq_self.mpr fun _ _ => rfl
    rw [this, Nat.zero_add]
  | n + 1, held, closed => by
    have hd : roundsF bs (n + 1) held closed = if readyOf bs held closed = [] then [] else readyOf bs held closed :: roundsF bs n (held ++ keysIn bs (readyOf bs held closed)) (less closed (readyOf bs held closed)) := rfl
    rw [hd]
    split
    · show 0 + (less closed []).length = _
      have : less closed [] = closed := List.filter_eq_self.mpr fun _ _ => rfl
      rw [this, Nat.zero_add]
    · rw [List.flatten_cons, List.length_append, ← less_two]
      have h1 := rounds_less bs n (held ++ keysIn bs (readyOf bs held closed)) (less closed (readyOf bs held closed))
      have h2 := ready_less bs held closed
      omega
theorem shut_len {bs : List Box} {hand : List Str} : shutOf bs hand [] = [] ↔ (roundsOf bs hand (List.range bs.length)).flatten.length = bs.length := by
  have e1 : ∀ l, less l [] = l := fun l => List.filter_eq_self.mpr fun _ _ => rfl
  have e2 : keysIn bs [] = [] := rfl
  have hs : shutOf bs hand [] = less (List.range bs.length) (roundsOf bs hand (List.range bs.length)).flatten := by
    show less (less (List.range bs.length) []) (roundsOf bs (hand ++ keysIn bs []) (less (List.range bs.length) [])).flatten = _
    rw [e1, e2, List.append_nil]
  have h := rounds_less bs ((List.range bs.length).length + 1) hand (List.range bs.length)
  have h' : (roundsOf bs hand (List.range bs.length)).flatten.length + (less (List.range bs.length) (roundsOf bs hand (List.range bs.length)).flatten).length = (List.range bs.length).length := h
  rw [List.length_range] at h'
  rw [hs, ← List.length_eq_zero_iff]
  omega
def boxesL (h : House) (s : KSt) : List Box := (List.range h.1.length).map fun i => (if i ∈ s.op ∨ i ∈ s.br then [] else (bx h.1 i).1, lyAt s i)
def keysL (h : House) (s : KSt) : List Str := s.hand ++ (List.range h.1.length).flatMap fun i => if i ∈ s.op then lyAt s i else []
theorem len_L (h : House) (s : KSt) : (boxesL h s).length = h.1.length := by unfold boxesL; rw [List.length_map, List.length_range]
theorem bx_mapR {f : Nat → Box} {n i : Nat} (hi : i < n) : bx ((List.range n).map f) i = f i := by
  unfold bx
  rw [List.getD_eq_getElem?_getD, List.getElem?_map, List.getElem?_range hi]
  rfl
theorem unl_K (h : House) (s : KSt) : unl (boxesK h s) s.op = boxesL h s := by
  unfold unl boxesL
  rw [len_K]
  refine List.map_congr_left fun i hi => ?_
  rw [List.mem_range] at hi
  show (if i ∈ s.op then ([], (bx (boxesK h s) i).2) else bx (boxesK h s) i) = _
  have e : bx (boxesK h s) i = (locksOf h s i, lyAt s i) := by unfold boxesK; exact bx_mapR hi
  rw [e]
  unfold locksOf
  by_cases z : i ∈ s.op
  · rw [if_pos z]
    show ([], lyAt s i) = _
    rw [if_pos (.inl z)]
  · rw [if_neg z]
    by_cases y : i ∈ s.br
    · rw [if_pos y, if_pos (.inr y)]
    · rw [if_neg y, if_neg (fun x => x.elim z y)]
theorem few_L {h : House} {s : KSt} (o : OkK h s) : Few (boxesL h s) := by
  refine ⟨by rw [len_L]; exact o.oh.2.1, fun b hb => ?_⟩
  unfold boxesL at hb
  obtain ⟨i, hi, rfl⟩ := List.mem_map.mp hb
  refine ⟨?_, o.at6 i⟩
  show (if i ∈ s.op ∨ i ∈ s.br then [] else (bx h.1 i).1).length ≤ 3
  split
  · exact Nat.zero_le _
  · exact (o.oh.few.bx i).1
theorem keysL_len {h : House} {s : KSt} (o : OkK h s) : (keysL h s).length ≤ 300 := by
  unfold keysL
  have h40 := o.hl
  have h30 := o.oh.2.1
  have : ∀ l : List Nat, (l.flatMap fun i => if i ∈ s.op then lyAt s i else []).length ≤ 6 * l.length := fun l => by
    induction l with
    | nil => exact Nat.zero_le _
    | cons a r ih =>
      rw [List.flatMap_cons, List.length_append, List.length_cons]
      have : (if a ∈ s.op then lyAt s a else []).length ≤ 6 := by
        split
        · exact o.at6 a
        · exact Nat.zero_le _
      omega
  have := this (List.range h.1.length)
  rw [List.length_range] at this
  rw [List.length_append]
  omega
theorem can_rounds {h : House} {s : KSt} (o : OkK h s) : canB h s = decide ((roundsOf (boxesL h s) (keysL h s) (List.range h.1.length)).flatten.length = h.1.length) := by
  unfold canB
  refine decide_eq_decide.mpr ?_
  have hb : ∀ i ∈ s.op, i < (boxesK h s).length := fun i hi => by rw [len_K]; exact o.ob i hi
  have hz : ∀ i ∈ ([] : List Nat), i < (boxesL h s).length := fun i hi => by cases hi
  rw [shutOf_unl hb, unl_K]
  have hx := shut_len (bs := boxesL h s) (hand := keysL h s)
  rw [len_L] at hx
  rw [← hx, opens_shut hz, opens_shut hz]
  have hL : ∀ i, i < h.1.length → bx (boxesL h s) i = (if i ∈ s.op ∨ i ∈ s.br then [] else (bx h.1 i).1, lyAt s i) := fun i hi => by unfold boxesL; exact bx_mapR hi
  constructor
  · intro z i hi S hS
    refine z i hi S ⟨fun j hj => (by cases hj), fun j hj hc => hS.2 j hj fun c hcc => ?_⟩
    rcases hc c hcc with y | y
    · exact .inl (List.mem_append_left _ y)
    · exact .inr y
  · intro z i hi S hS
    refine z i hi S ⟨fun j hj => (by cases hj), fun j hj hc => hS.2 j hj fun c hcc => ?_⟩
    rcases hc c hcc with y | y
    · rcases List.mem_append.mp y with x | x
      · exact .inl x
      · obtain ⟨k, hk, hck⟩ := List.mem_flatMap.mp x
        rw [List.mem_range] at hk
        split at hck
        · next ho =>
          refine .inr ⟨k, by rw [len_L]; exact hk, hS.2 k (by rw [len_L]; exact hk) fun c' hc' => ?_, by rw [hL k hk]; exact hck⟩
          rw [hL k hk] at hc'
          have hc2 : c' ∈ (if k ∈ s.op ∨ k ∈ s.br then ([] : List Str) else (bx h.1 k).1) := hc'
          rw [if_pos (.inl ho)] at hc2
          cases hc2
        · cases hck
    · exact .inr y
end Kw
set_option Elab.async false
set_option linter.all false
set_option maxRecDepth 100000
set_option maxHeartbeats 4000000
namespace Kw
open PySem PySem.Spec PyProof.Rows L2 Evl
def cl (n : Nat) (op : List Nat) : List Nat := less (List.range n) op
theorem cl_app (n : Nat) (op r : List Nat) : cl n (op ++ r) = less (cl n op) r := by
  unfold cl less
  rw [List.filter_filter]
  apply List.filter_congr
  intro i _
  by_cases h1 : i ∈ op <;> by_cases h2 : i ∈ r <;> simp [h1, h2]
theorem some_eq (bs : List Box) (hand : List Str) (n : Nat) (op : List Nat) : (List.range n).filter (fun i => !decide (i ∈ op) && fitsB (bx bs i).1 hand) = readyOf bs hand (cl n op) := by
  unfold cl less readyOf
  rw [List.filter_filter]
  apply List.filter_congr
  intro i _
  rw [Bool.and_comm]
theorem ones_fit (ls hs : List Str) : decide (((ls.filter fun c => !decide (c ∈ hs)).map fun _ => 1) = ([] : List Nat)) = fitsB ls hs := by
  unfold fitsB
  induction ls with
  | nil => simp
  | cons a r ih =>
    rw [List.all_cons, ← ih]
    by_cases h : a ∈ hs
    · rw [List.filter_cons_of_neg (by simp [h])]
      simp [h]
    · rw [List.filter_cons_of_pos (by simp [h])]
      simp [h]
/-- the boxes one by one with their numbers -/
def YB (K : PySem.W.Frag) (bs : List Box) : Nat → Hp → V → Hp → Prop := fun i H x H' => ∃ T v, x = .ref T ∧ H T = none ∧ H' = upd H T (.tup [vN i, v]) ∧ BoxAt K H v (bx bs i)
/-- what is walked, as long as what the heap H held is there -/
def WalksB (K : PySem.W.Frag) (H : Hp) (wi : TI) (b : Addr) (bs : List Box) : Prop := ∀ (σ : L2.St) (H1 : Hp), Ex H H1 → σ[0]? = some (some (.ref b)) → ∀ R : It → Hp → Prop,
  (∀ (J : It) (G : Hp → Prop) (H2 : Hp), Ex H1 H2 → Walk J bs.length G (YB K bs) → (∀ H3, Ex H H3 → G H3) → R J H2) → wi σ H1 R
theorem walksB_T {K : PySem.W.Frag} {H : Hp} {b : Addr} {vs : List V} {bs : List Box} (h : SqT K H b vs) (p : Paired (BoxAt K H) vs bs) : WalksB K H (iEnT K (tCons (tVar 0) tNil)) b bs := by
  intro σ H1 e h0 R r
  refine ⟨.ref b, h0, b, vs, rfl, ex_t e h, r _ (fun H' => SqT K H' b vs ∧ Paired (BoxAt K H') vs bs) H1 (Ex.refl H1) ?_ fun H3 e3 => ⟨ex_t e3 h, paired_imp p fun _ _ x => x.keep (KeepT.ex e3)⟩⟩
  rw [← paired_len p]
  refine walk_enT.mono (fun H' x => x.1) fun i H' x H2 hi hg hy => ?_
  obtain ⟨T, n, v, h1, h2, h3, h4, h5⟩ := hy
  cases h4
  obtain ⟨b0, hb0, hat⟩ := paired_get hg.2 h5
  have : bx bs i = b0 := by
    unfold bx
    rw [List.getD_eq_getElem?_getD, hb0]
    rfl
  rw [← this] at hat
  exact ⟨T, v, h1, h2, h3, hat⟩
theorem walksB_L {K : PySem.W.Frag} {H : Hp} {b : Addr} {vs : List V} {bs : List Box} (h : SqL K H b vs) (p : Paired (BoxAt K H) vs bs) : WalksB K H (iEnum K (tCons (tVar 0) tNil)) b bs := by
  intro σ H1 e h0 R r
  refine ⟨.ref b, h0, b, vs, rfl, ex_l e h, r _ (fun H' => SqL K H' b vs ∧ Paired (BoxAt K H') vs bs) H1 (Ex.refl H1) ?_ fun H3 e3 => ⟨ex_l e3 h, paired_imp p fun _ _ x => x.keep (KeepT.ex e3)⟩⟩
  rw [← paired_len p]
  refine walk_enum.mono (fun H' x => x.1) fun i H' x H2 hi hg hy => ?_
  obtain ⟨T, n, v, h1, h2, h3, h4, h5⟩ := hy
  cases h4
  obtain ⟨b0, hb0, hat⟩ := paired_get hg.2 h5
  have : bx bs i = b0 := by
    unfold bx
    rw [List.getD_eq_getElem?_getD, hb0]
    rfl
  rw [← this] at hat
  exact ⟨T, v, h1, h2, h3, hat⟩
section
variable {K : PySem.W.Frag} {σ : L2.St} {H H' : Hp} {ta tb te tl : TE} {x y z v : V}
theorem el_cat2 {l b : Addr} {xs zs : List V} (ha : Ev ta σ H (.ref l)) (hl : H l = some (.lst xs)) (hb : Ev tb σ H (.ref b)) (hz : H b = some (.lst zs)) (hn : xs.length + zs.length ≤ 100000) : EvL (tOp rCat ta tb) σ H (xs ++ zs) := fun H1 e Q q =>
  ha H1 e _ fun H2 e2 => hb H2 (e.trans e2) _ fun H3 e3 => ⟨l, b, xs, zs, rfl, rfl, e3 _ _ (e2 _ _ (e _ _ hl)), e3 _ _ (e2 _ _ (e _ _ hz)), sz_of hn, fun p hp => q p _ (fresh_back (e2.trans e3) hp) ((e2.trans e3).trans (Ex.new hp)) upd_same⟩
/-- [1 for colour in locks if colour not in hand] == [] -/
theorem et_ones {l h : Addr} {ls hs : List Str} {vs : List Nat} {jc jl jh : Nat} (hl : Ev (tVar jl) σ H (.ref l)) (hL : SqT K H l (ls.map V.str)) (hn : ls.length ≤ 1000) (hH : H h = some (.lst (hs.map V.str)))
    (hw : ∀ x, wipe ((wipe σ vs).set jc (some x)) vs = wipe σ vs ∧ ((wipe σ vs).set jc (some x))[jc]? = some (some x) ∧ ((wipe σ vs).set jc (some x))[jh]? = some (some (.ref h))) :
    EvT (tTest (tOp (rEqD K) (tLc (iTup K (tVar jl)) (gName jc) (tTest (tOp (rIn K true) (tVar jc) (tVar jh))) (tC (.int 1)) vs) (tLst tNil))) σ H (fitsB ls hs) := by
  refine et_is (et_test (ev_opLL (xs := ((ls.filter fun c => !decide (c ∈ hs)).map fun _ => 1).map vN) (ys := ([] : List Nat).map vN) ?_ (el_lst ea_nil (by decide)) fun p q H1 hp hq e => rv_eqLN (K := K) (sq_of hp) (sq_of hq))) (ones_fit ls hs)
  refine el_lc (ew_tup hl hL) (by rw [List.length_map]; omega) (fun i => !decide (ls.getD i default ∈ hs)) (fun i => vN 1) ?_ (fun i x H1 H2 Q e hi hy k => ?_)
  · rw [List.length_map, List.map_map]
    exact filter_range_map ls default (fun c => !decide (c ∈ hs)) (fun _ => vN 1)
  · obtain ⟨rfl, hx⟩ := hy
    have hi' : i < ls.length := by rw [List.length_map] at hi; exact hi
    have ei : ls.getD i default = ls[i] := by rw [List.getD_eq_getElem?_getD, List.getElem?_eq_getElem hi']; rfl
    have ex : x = .str ls[i] := by
      rw [List.getElem?_map, List.getElem?_eq_getElem hi'] at hx
      exact (Option.some.inj hx).symm
    subst ex
    obtain ⟨w1, w2, w3⟩ := hw (.str ls[i])
    refine k _ _ (Ex.refl _) w1 ?_ fun _ => ev_c
    rw [ei, ← inV_str]
    exact et_test (ev_op (ev_var w2) (ev_var w3) (rv_niL (sq_of (e _ _ hH)) rfl (flat_strs hs)))
end
end Kw
set_option Elab.async false
set_option linter.all false
set_option maxRecDepth 100000
set_option maxHeartbeats 4000000
namespace Kw
open PySem PySem.Spec PyProof.Rows L2 Evl
abbrev sLR : Stmt := topS 51
theorem scLR : FnScope ["boxes", "hand", "opened", "found", "some", "number", "locks", "inside", "colour"] ["boxes", "hand"] (defScope sLR) := ⟨rfl, rfl, rfl, by decide +kernel, rfl, by decide +kernel, by decide +kernel⟩
section
variable {P : Program} {w : World} {K : PySem.W.Frag} {mg : Str → Option Value} {base : Heap}
def spLR (K : PySem.W.Frag) : Sp := fun vs H Q _ => ∃ (b h : Addr) (bs : List Box) (hand : List Str), vs = [.ref b, .ref h] ∧ BoxesS K H b bs ∧ Few bs ∧ SqT K H h (hand.map V.str) ∧ hand.length ≤ 100 ∧
  ∀ p ys H2, H p = none → Ex H H2 → H2 p = some (.lst ys) → TupsAt K H2 ys (roundsOf bs hand (List.range bs.length)) → Q (.ref p) H2
def spLRg (K : PySem.W.Frag) : Sp := fun vs H Q _ => ∃ (b h : Addr) (bs : List Box) (hand : List Str), vs = [.ref b, .ref h] ∧ BoxesS K H b bs ∧ Few bs ∧ (SqL K H h (hand.map V.str) ∨ SqT K H h (hand.map V.str)) ∧ hand.length ≤ 300 ∧
  ∀ p ys H2, H p = none → Ex H H2 → H2 p = some (.lst ys) → TupsAt K H2 ys (roundsOf bs hand (List.range bs.length)) → Q (.ref p) H2
/-- between two turns of the while -/
def LRI (K : PySem.W.Frag) (H : Hp) (b f : Addr) (bs : List Box) (all : List (List Nat)) (m : Nat) (σ' : L2.St) (H' : Hp) : Prop := ∃ (h o s : Addr) (y5 y6 y7 y8 : Option V) (hand : List Str) (op sl : List Nat) (done : List (List Nat)) (ys : List V),
  σ' = [some (.ref b), some (.ref h), some (.ref o), some (.ref f), some (.ref s), y5, y6, y7, y8] ∧ Ex H H' ∧ H' h = some (.lst (hand.map V.str)) ∧ H' o = some (.lst (op.map vN)) ∧ H' f = some (.lst ys) ∧ TupsAt K H' ys done ∧ H' s = some (.lst (sl.map vN)) ∧
  h ≠ f ∧ o ≠ f ∧ s ≠ f ∧ (sl ≠ [] → done ++ roundsOf bs hand (cl bs.length op) = all) ∧ (sl = [] → done = all) ∧ hand.length + 6 * (cl bs.length op).length ≤ 1000 ∧ op.length + (cl bs.length op).length ≤ 1000 ∧ done.length + (cl bs.length op).length ≤ 1000 ∧ m = (cl bs.length op).length + (if sl = [] then 0 else 1)
def tLRb (K : PySem.W.Frag) (wi : TI) : TS :=
  tSeq (tAsg (tTup (tCons (tCB (rListS K) (tCons (tVar 1) tNil)) (tCons (tLst tNil) (tCons (tLst tNil) (tCons (tLst (tCons (tC (.int 0)) tNil)) tNil))))) (gTup K 4 (gCons (gName 1) (gCons (gName 2) (gCons (gName 3) (gCons (gName 4) gNil))))))
  (tSeq (tWhile (tTest (tOp (rNeD K) (tVar 4) (tLst tNil)))
    (tSeq (tAsg (tLst tNil) (gName 4))
    (tSeq (tFor wi (gTup K 2 (gCons (gName 5) (gCons (gTup K 2 (gCons (gName 6) (gCons (gName 7) gNil))) gNil))) (tIfS (tAnd (tTest (tOp (rIn K true) (tVar 5) (tVar 2))) (tTest (tOp (rEqD K) (tLc (iTup K (tVar 6)) (gName 8) (tTest (tOp (rIn K true) (tVar 8) (tVar 1))) (tC (.int 1)) [8]) (tLst tNil)))) (tDrop (tBM K "list" rAppend (tVar 4) (tCons (tVar 5) tNil))) tNext))
    (tSeq (tAsg (tOp rCat (tVar 2) (tVar 4)) (gName 2))
    (tSeq (tFor (iList K (tVar 4)) (gName 5) (tAsg (tOp rCat (tVar 1) (tCB (rListS K) (tCons (tOp (rIxT K) (tOp (rIx K) (tVar 0) (tVar 5)) (tC (.int 1))) tNil))) (gName 1)))
      (tIfS (tTest (tOp (rNeD K) (tVar 4) (tLst tNil))) (tDrop (tBM K "list" rAppend (tVar 3) (tCons (tCB (rTupOf K) (tCons (tVar 4) tNil)) tNil))) tNext))))))
  (tRet (tVar 3)))
theorem et_neN {σ : L2.St} {H : Hp} {j : Nat} {s : Addr} {sl : List Nat} (h : σ[j]? = some (some (.ref s))) (hs : H s = some (.lst (sl.map vN))) : EvT (tTest (tOp (rNeD K) (tVar j) (tLst tNil))) σ H (!decide (sl = [])) :=
  et_test (ev_opL (xs := ([] : List Nat).map vN) (ev_var h) (el_lst ea_nil (by decide)) fun p H1 hp e => rv_neLN (K := K) (sq_of (e _ _ hs)) (sq_of hp))
theorem LR_core {wi : TI} {b h : Addr} {H : Hp} {bs : List Box} {hand : List Str} {Q : VK} {nx : L2.St → Hp → Prop} {bk ct : L2.St → Hp → Prop} (hW : WalksB K H wi b bs) (hB : BoxesS K H b bs) (hF : Few bs) (hh : SqL K H h (hand.map V.str) ∨ SqT K H h (hand.map V.str)) (hl : hand.length ≤ 300)
    (q : ∀ p ys H2, H p = none → Ex H H2 → H2 p = some (.lst ys) → TupsAt K H2 ys (roundsOf bs hand (List.range bs.length)) → Q (.ref p) H2) :
    tLRb K wi ⟨nx, Q, bk, ct⟩ [some (.ref b), some (.ref h), none, none, none, none, none, none, none] H := by
  have hb30 := hF.1
  refine (hh.elim (fun z => el_list (K := K) (ev_var (v := .ref h) rfl) z) fun z => el_listT (K := K) (ev_var (v := .ref h) rfl) z : EvL (tCB (rListS K) (tCons (tVar 1) tNil)) [some (.ref b), some (.ref h), none, none, none, none, none, none, none] H (hand.map V.str)) H (Ex.refl H) _ fun h1 H1 n1 e1 hh1 => ?_
  refine el_lst ea_nil (by decide) H1 (Ex.refl H1) _ fun o H2 n2 e2 ho => ?_
  refine el_lst ea_nil (by decide) H2 (Ex.refl H2) _ fun f H3 n3 e3 hf => ?_
  refine el_lst (vs := [vN 0]) (ea_cons ev_c ea_nil) (by show 1 ≤ 100000; decide) H3 (Ex.refl H3) _ fun s H4 n4 e4 hs => ?_
  refine ⟨by show 4 ≤ sizeLine; decide, fun tp ntp => ?_⟩
  have e5 := Ex.new (o := .tup [.ref h1, .ref o, .ref f, .ref s]) ntp
  refine ⟨tp, _, rfl, st_of upd_same, rfl, .ref h1, _, rfl, .ref o, _, rfl, .ref f, _, rfl, .ref s, _, rfl, rfl, ?_⟩
  have nf : H f = none := fresh_back (e1.trans e2) n3
  have hcl0 : cl bs.length [] = List.range bs.length := List.filter_eq_self.mpr fun _ _ => rfl
  refine q_while (LRI K H b f bs (roundsOf bs hand (List.range bs.length))) ((cl bs.length []).length + 1) ⟨h1, o, s, none, none, none, none, hand, [], [0], [], [], rfl, (((e1.trans e2).trans e3).trans e4).trans e5, (((e2.trans e3).trans e4).trans e5) _ _ hh1, ((e3.trans e4).trans e5) _ _ ho, (e4.trans e5) _ _ hf, .nil, e5 _ _ hs, fun z => ?_, fun z => ?_, fun z => ?_, fun _ => by rw [hcl0]; rfl, (by intro z; cases z), ?_, ?_, ?_, rfl⟩ (fun m σ' H' hI => ?_)
  · rw [← z, e2 _ _ hh1] at n3
    cases n3
  · rw [← z, ho] at n3
    cases n3
  · rw [z, hf] at n4
    cases n4
  · rw [hcl0, List.length_range]
    omega
  · rw [hcl0, List.length_range]
    show 0 + bs.length ≤ 1000
    omega
  · rw [hcl0, List.length_range]
    show 0 + bs.length ≤ 1000
    omega
  obtain ⟨h, o, s, y5, y6, y7, y8, hd, op, sl, done, ys, rfl, eH, hh, ho, hf, hT, hs, nhf, nof, nsf, hne, hnil, z1, z2, z3, rfl⟩ := hI
  refine ⟨_, et_neN (K := K) rfl hs, fun hb H5 e5 => ?_, fun hb H5 e5 => ?_⟩
  · have hsl : sl ≠ [] := fun z => by
      rw [z] at hb
      cases hb
    have hall := hne hsl
    rw [if_neg hsl]
    refine ⟨fun σ2 H2 => ∃ m', m' < (cl bs.length op).length + 1 ∧ LRI K H b f bs (roundsOf bs hand (List.range bs.length)) m' σ2 H2, fun σ2 H2 hN => hN, ?_⟩
    -- some = []
    refine q_asgL (xs := []) (el_lst ea_nil (by decide)) fun s2 H6 n6 e6 hs2 => ?_
    have eH6 := (eH.trans e5).trans e6
    have ns2 : H s2 = none := fresh_back (eH.trans e5) n6
    have d1 : h ≠ s2 := fun z => by
      rw [← z, e5 _ _ hh] at n6
      cases n6
    have d2 : o ≠ s2 := fun z => by
      rw [← z, e5 _ _ ho] at n6
      cases n6
    have d3 : f ≠ s2 := fun z => by
      rw [← z, e5 _ _ hf] at n6
      cases n6
    -- the boxes one by one
    refine hW _ H6 eH6 rfl _ fun J G H7 e7 wk hG => ?_
    refine for_it wk (fun i σ' H' => ∃ (y5 y6 y7 : Option V), σ' = [some (.ref b), some (.ref h), some (.ref o), some (.ref f), some (.ref s2), y5, y6, y7, y8] ∧ Ex H H' ∧ H' h = some (.lst (hd.map V.str)) ∧ H' o = some (.lst (op.map vN)) ∧ H' f = some (.lst ys) ∧ TupsAt K H' ys done ∧
        H' s2 = some (.lst (((List.range i).filter fun i => !decide (i ∈ op) && fitsB (bx bs i).1 hd).map vN)))
      ⟨y5, y6, y7, rfl, eH6.trans e7, ((e5.trans e6).trans e7) _ _ hh, ((e5.trans e6).trans e7) _ _ ho, ((e5.trans e6).trans e7) _ _ hf, hT.keep (KeepT.ex ((e5.trans e6).trans e7)), e7 _ _ hs2⟩
      (fun i σ' H' _ hP => ?_) (fun i x σ' H8 H9 hi hP hy => ?_) (fun σ' H8 hP => ?_)
    · obtain ⟨_, _, _, _, eX, _⟩ := hP
      exact hG _ eX
    · obtain ⟨u5, u6, u7, rfl, eX, g1, g2, g3, g4, g5⟩ := hP
      obtain ⟨T, v, rfl, nT, rfl, p, l, kk, rfl, hp, hl1, hk1⟩ := hy
      have eT := Ex.new (o := .tup [vN i, .ref p]) nT
      refine ⟨T, _, rfl, st_of upd_same, rfl, vN i, [.ref p], rfl, .ref p, [], rfl, p, _, rfl, ex_t eT hp, rfl, .ref l, [.ref kk], rfl, .ref kk, [], rfl, rfl, rfl, ?_⟩
      have fb := (hF.bx i).1
      have sn : ∀ q : Nat → Bool, ((List.range i).filter q).length ≤ i := fun q => by
        have := List.length_filter_le q (List.range i)
        rw [List.length_range] at this
        exact this
      refine s_when (b := !decide (i ∈ op) && fitsB (bx bs i).1 hd) (et_and (et_is (et_test (ev_op (ev_var (v := vN i) rfl) (ev_var (v := .ref o) rfl) (rv_niL (K := K) (sq_of (eT _ _ g2)) rfl (flat_nats op)))) (by rw [inV_nat])) fun _ => et_ones (K := K) (h := h) (jl := 6) (ev_var rfl) (ex_t eT hl1) (by omega) (eT _ _ g1) fun x => ⟨rfl, rfl, rfl⟩) (fun hb H10 e10 => ?_) (fun hb H10 e10 => ?_)
      · refine s_app (K := K) (l := s2) ((eT.trans e10) _ _ g5) (ev_var rfl) (v := vN i) (ev_var rfl) (by rw [List.length_map]; have := sn fun i => !decide (i ∈ op) && fitsB (bx bs i).1 hd; omega) fun H11 e11 => ?_
        have eA := (eT.trans e10).trans e11
        have g5' := eA _ _ g5
        refine ⟨some (vN i), some (.ref l), some (.ref kk), rfl, Ex.mut (eX.trans eA) ns2, by rw [upd_ne d1]; exact eA _ _ g1, by rw [upd_ne d2]; exact eA _ _ g2, by rw [upd_ne d3]; exact eA _ _ g3, g4.keep ((KeepT.ex eA).trans (KeepT.lst g5')), ?_⟩
        rw [upd_same, List.range_succ, List.filter_append, List.filter_cons_of_pos (p := fun i => !decide (i ∈ op) && fitsB (bx bs i).1 hd) hb, List.map_append]
        rfl
      · have eA := eT.trans e10
        refine ⟨some (vN i), some (.ref l), some (.ref kk), rfl, eX.trans eA, eA _ _ g1, eA _ _ g2, eA _ _ g3, g4.keep (KeepT.ex eA), ?_⟩
        rw [List.range_succ, List.filter_append, List.filter_cons_of_neg (p := fun i => !decide (i ∈ op) && fitsB (bx bs i).1 hd) (by rw [hb]; decide), List.filter_nil, List.append_nil]
        exact eA _ _ g5
    · obtain ⟨u5, u6, u7, rfl, eX, g1, g2, g3, g4, g5⟩ := hP
      rw [some_eq] at g5
      generalize hrd : readyOf bs hd (cl bs.length op) = rd at g5
      have hrl : rd.length + (less (cl bs.length op) rd).length = (cl bs.length op).length := by
        rw [← hrd]
        exact ready_less bs hd (cl bs.length op)
      have hkl := keysIn_len (fun b hb => (hF.2 b hb).2) rd
      have hrm : ∀ i ∈ rd, i < bs.length := fun i hi => by
        rw [← hrd] at hi
        exact List.mem_range.mp (List.mem_filter.mp (List.mem_filter.mp hi).1).1
      -- opened = opened + some
      show tSeq (tAsg (tOp rCat (tVar 2) (tVar 4)) (gName 2)) _ _ [some (.ref b), some (.ref h), some (.ref o), some (.ref f), some (.ref s2), u5, u6, u7, y8] H8
      refine q_asgL (xs := (op ++ rd).map vN) (by
        rw [List.map_append]
        exact el_cat2 (ev_var (v := .ref o) rfl) g2 (ev_var (v := .ref s2) rfl) g5 (by rw [List.length_map, List.length_map]; omega)) fun o2 H10 n10 e10 ho2 => ?_
      have no2f : o2 ≠ f := fun z => by
        rw [z, g3] at n10
        cases n10
      -- the keys come to the hand
      show tSeq (tFor (iList K (tVar 4)) (gName 5) _) _ _ [some (.ref b), some (.ref h), some (.ref o2), some (.ref f), some (.ref s2), u5, u6, u7, y8] H10
      refine q_forLn (K := K) (ev_var (v := .ref s2) rfl) (sq_of (e10 _ _ g5)) (fun i σ' H' => ∃ (h2 : Addr) (y : Option V), σ' = [some (.ref b), some (.ref h2), some (.ref o2), some (.ref f), some (.ref s2), y, u6, u7, y8] ∧ Ex H10 H' ∧ h2 ≠ f ∧ H' h2 = some (.lst ((hd ++ keysIn bs (rd.take i)).map V.str)))
        (fun H11 e11 => ⟨h, u5, rfl, e11, nhf, by simp only [List.take_zero, keysIn, List.flatMap_nil, List.append_nil]; exact e11 _ _ (e10 _ _ g1)⟩) (fun i σ' H' _ hP => by
          obtain ⟨_, _, _, eY, _⟩ := hP
          exact sq_of (eY _ _ (e10 _ _ g5))) (fun i x σ' H11 hx hP => ?_) (fun σ' H11 hP => ?_)
      · obtain ⟨h2, y, rfl, eY, nh2, hh2⟩ := hP
        have hi' : i < rd.length := by
          have := (List.getElem?_eq_some_iff.mp hx).1
          rw [List.length_map] at this
          exact this
        have ex : x = vN rd[i] := by
          rw [List.getElem?_map, List.getElem?_eq_getElem hi'] at hx
          exact (Option.some.inj hx).symm
        subst ex
        obtain ⟨l, kk, hl1, hk1, ea, eb⟩ := box_at (K := K) (σ := [some (.ref b), some (.ref h2), some (.ref o2), some (.ref f), some (.ref s2), some (vN rd[i]), u6, u7, y8]) (ta := tVar 0) (tb := tVar 5) (hB.ex ((eX.trans e10).trans eY)) (hrm _ (List.getElem_mem hi')) (ev_var rfl) (ev_var rfl)
        have hk2 := keysIn_len (fun b hb => (hF.2 b hb).2) (rd.take i)
        rw [List.length_take] at hk2
        have fb := (hF.bx rd[i]).2
        refine s_asgL (xs := (hd ++ keysIn bs (rd.take (i + 1))).map V.str) (by
          rw [show hd ++ keysIn bs (rd.take (i + 1)) = (hd ++ keysIn bs (rd.take i)) ++ (bx bs rd[i]).2 by
            rw [List.take_add_one, List.getElem?_eq_getElem hi', List.append_assoc]
            unfold keysIn
            rw [List.flatMap_append]
            simp, List.map_append]
          exact el_cat (ev_var (v := .ref h2) rfl) hh2 (el_listT (K := K) eb hk1) (by rw [List.length_map, List.length_map, List.length_append]; omega)) fun h3 H12 n12 e12 hh3 => ?_
        have nh3 : h3 ≠ f := fun z => by
          rw [z, eY _ _ (e10 _ _ g3)] at n12
          cases n12
        exact ⟨h3, _, rfl, eY.trans e12, nh3, hh3⟩
      · obtain ⟨h2, y, rfl, eY, nh2, hh2⟩ := hP
        rw [List.length_map, List.take_length] at hh2
        have g3' := eY _ _ (e10 _ _ g3)
        have g5' := eY _ _ (e10 _ _ g5)
        have hlen : (hd ++ keysIn bs rd).length + 6 * (cl bs.length (op ++ rd)).length ≤ 1000 := by
          rw [cl_app, List.length_append]
          omega
        have hlen2 : (op ++ rd).length + (cl bs.length (op ++ rd)).length ≤ 1000 := by
          rw [cl_app, List.length_append]
          omega
        have hcl : (cl bs.length (op ++ rd)).length = (cl bs.length op).length - rd.length := by
          rw [cl_app]
          omega
        refine s_when (b := !decide (rd = [])) (et_neN (K := K) rfl g5') (fun hb H12 e12 => ?_) (fun hb H12 e12 => ?_)
        · have hr0 : rd ≠ [] := fun z => by
            rw [z] at hb
            cases hb
          have hpos : 0 < rd.length := List.length_pos_iff.mpr hr0
          have hyl : ys.length = done.length := paired_len hT
          refine s_appU (K := K) (l := f) (e12 _ _ g3') (ev_var rfl) (eu_tupL (K := K) (ev_var (v := .ref s2) rfl) (sq_of (e12 _ _ g5'))) (by omega) fun p H13 np e13 hp => ?_
          have eZ := e12.trans e13
          have g3'' := eZ _ _ g3'
          refine ⟨(cl bs.length (op ++ rd)).length + 1, by omega, h2, o2, s2, _, _, _, _, hd ++ keysIn bs rd, op ++ rd, rd, done ++ [rd], ys ++ [.ref p], rfl, Ex.mut ((((eX.trans e10).trans eY).trans e12).trans e13) nf, by rw [upd_ne nh2]; exact eZ _ _ hh2, by rw [upd_ne no2f]; exact eZ _ _ (eY _ _ ho2), upd_same, ?_, by rw [upd_ne (Ne.symm d3)]; exact eZ _ _ g5', nh2, no2f, Ne.symm d3, fun _ => ?_, fun z => absurd z hr0, hlen, hlen2, by rw [List.length_append, List.length_singleton]; omega, by rw [if_neg hr0]⟩
          · exact paired_app (g4.keep ((KeepT.ex (((e10.trans eY).trans e12).trans e13)).trans (KeepT.lst g3''))) ⟨p, rfl, keep_t (KeepT.lst g3'') (st_of hp)⟩
          · rw [List.append_assoc, cl_app, ← hall]
            rw [roundsOf_cons (bs := bs) (held := hd) (closed := cl bs.length op) (by rw [hrd]; exact hr0), hrd]
            rfl
        · have hr0 : rd = [] := by
            cases rd with
            | nil => rfl
            | cons a r => cases hb
          subst hr0
          refine ⟨(cl bs.length (op ++ [])).length + 0, by rw [List.append_nil]; omega, h2, o2, s2, _, _, _, _, hd ++ keysIn bs [], op ++ [], [], done, ys, rfl, ((eX.trans e10).trans eY).trans e12, e12 _ _ hh2, e12 _ _ (eY _ _ ho2), e12 _ _ g3', g4.keep (KeepT.ex ((e10.trans eY).trans e12)), e12 _ _ g5', nh2, no2f, Ne.symm d3, fun z => absurd rfl z, fun _ => ?_, hlen, hlen2, by rw [List.append_nil]; exact z3, by rw [if_pos rfl]⟩
          rw [← hall, roundsOf_nil hrd, List.append_nil]
  · have hsl : sl = [] := by
      cases sl with
      | nil => rfl
      | cons a r => cases hb
    exact ⟨.ref f, rfl, q f ys H5 nf (eH.trans e5) (e5 _ _ hf) (by rw [← hnil hsl]; exact hT.keep (KeepT.ex e5))⟩
theorem ok_LRg {f : Addr} {fd : FuncData} {k : Nat} (F : Fun K "_law_rounds" "_law_rounds" sLR f fd) (B : Bu mg) (mE : mg "enumerate" = none) : FnOk P w K mg base CX0 (k + 1) f fd ["boxes", "hand"] (spLRg K) := by
  refine F.ok scLR (fun vs H Q E h => ?_) (fun cdv A outer s H vs Q E hr h => ?_)
  · obtain ⟨b, h, bs, hand, rfl, _⟩ := h
    rfl
  · obtain ⟨b, h, bs, hand, rfl, hB, hF, hh, hl, q⟩ := h
    have hB' := hB
    obtain ⟨vs, hvs, hpr⟩ := hB'
    have hb30 := hF.1
    have hu64 := hr.units
    rcases hvs with hvs | hvs
    · refine ⟨tLRb K (iEnum K (tCons (tVar 0) tNil)), pss_cons (ps_asg (pe_tup (pa_cons (pe_callTy call_list_of (by rfl) B.lst boot_list (pa_cons (pv 1) pa_nil)) (pa_cons (pe_lst pa_nil) (pa_cons (pe_lst pa_nil) (pa_cons (pe_lst (pa_cons pe_int pa_nil)) pa_nil)))))
          (pg_tup rfl (pgs_cons (pg_name (i := 1) scLR.nd rfl (.inr rfl)) (pgs_cons (pg_name (i := 2) scLR.nd rfl (.inl rfl)) (pgs_cons (pg_name (i := 3) scLR.nd rfl (.inl rfl)) (pgs_cons (pg_name (i := 4) scLR.nd rfl (.inl rfl)) pgs_nil))))))
        (pss_cons (ps_while PassesOwn.never (pt_cmpR (op_neD hu64) (pv 4) (pe_lst pa_nil) (nomark _))
          (pss_cons (ps_set (i := 4) scLR.nd rfl (.inl rfl) (pe_lst pa_nil))
          (pss_cons (ps_for PassesOwn.never rfl (pi_enum (by rfl) mE (pa_cons (pv 0) pa_nil)) (pg_tup rfl (pgs_cons (pg_name (i := 5) scLR.nd rfl (.inl rfl)) (pgs_cons (pg_tup rfl (pgs_cons (pg_name (i := 6) scLR.nd rfl (.inl rfl)) (pgs_cons (pg_name (i := 7) scLR.nd rfl (.inl rfl)) pgs_nil))) pgs_nil)))
            (pss_one (ps_if (pw_and (pt_cmpR op_notIn_seq (pv 5) (pv 2) (by rfl)) (pw_and1 (pt_cmpR (op_eqD hu64) (pe_lc (own := [("colour", 8)]) (g := gName 8) (tt := tTest (tOp (rIn K true) (tVar 8) (tVar 1))) (te := tC (.int 1)) rfl scLR.nd (pi_tup (pv 6))
                (blkOk_by (N := ["boxes", "hand", "opened", "found", "some", "number", "locks", "inside", "colour"]) (sc := defScope sLR) (by decide +kernel)) (fun _ _ _ _ _ => pg_name (i := 8) scLR.nd rfl (.inl rfl)) (fun _ _ _ _ _ => pts_one (pt_cmpR op_notIn_seq (pv 8) (pv 1) (by rfl))) (fun _ _ _ _ _ => pe_int)) (pe_lst pa_nil) (nomark _)))).pt
              (pss_one (ps_expr (pe_bm PySem.F.plainAttrs_list PySem.F.slot_list_append PySem.F.type_list_append mt_append (pv 4) (pa_cons (pv 5) pa_nil)))) pss_nil)))
          (pss_cons (ps_set (i := 2) scLR.nd rfl (.inl rfl) (pe_op op_cat (pv 2) (pv 4)))
          (pss_cons (ps_for PassesOwn.never rfl (pi_list (pv 4)) (pg_name (i := 5) scLR.nd rfl (.inl rfl)) (pss_one (ps_set (i := 1) scLR.nd rfl (.inr rfl) (pe_op op_cat (pv 1) (pe_callTy call_list_of (by rfl) B.lst boot_list (pa_cons (pe_ix ix_tup (pe_ix ix_seq (pv 0) (pv 5) (fun _ _ => rfl)) pe_int (fun _ _ => rfl)) pa_nil))))))
          (pss_one (ps_if (pt_cmpR (op_neD hu64) (pv 4) (pe_lst pa_nil) (nomark _)) (pss_one (ps_expr (pe_bm PySem.F.plainAttrs_list PySem.F.slot_list_append PySem.F.type_list_append mt_append (pv 3) (pa_cons (pe_callTy call_tupOf (by rfl) B.tup boot_tuple (pa_cons (pv 4) pa_nil)) pa_nil)))) pss_nil)))))))
        (pss_one (ps_ret (pv 3)))), LR_core (walksB_L hvs hpr) hB hF hh hl q⟩
    · refine ⟨tLRb K (iEnT K (tCons (tVar 0) tNil)), pss_cons (ps_asg (pe_tup (pa_cons (pe_callTy call_list_of (by rfl) B.lst boot_list (pa_cons (pv 1) pa_nil)) (pa_cons (pe_lst pa_nil) (pa_cons (pe_lst pa_nil) (pa_cons (pe_lst (pa_cons pe_int pa_nil)) pa_nil)))))
          (pg_tup rfl (pgs_cons (pg_name (i := 1) scLR.nd rfl (.inr rfl)) (pgs_cons (pg_name (i := 2) scLR.nd rfl (.inl rfl)) (pgs_cons (pg_name (i := 3) scLR.nd rfl (.inl rfl)) (pgs_cons (pg_name (i := 4) scLR.nd rfl (.inl rfl)) pgs_nil))))))
        (pss_cons (ps_while PassesOwn.never (pt_cmpR (op_neD hu64) (pv 4) (pe_lst pa_nil) (nomark _))
          (pss_cons (ps_set (i := 4) scLR.nd rfl (.inl rfl) (pe_lst pa_nil))
          (pss_cons (ps_for PassesOwn.never rfl (pi_enT (by rfl) mE (pa_cons (pv 0) pa_nil)) (pg_tup rfl (pgs_cons (pg_name (i := 5) scLR.nd rfl (.inl rfl)) (pgs_cons (pg_tup rfl (pgs_cons (pg_name (i := 6) scLR.nd rfl (.inl rfl)) (pgs_cons (pg_name (i := 7) scLR.nd rfl (.inl rfl)) pgs_nil))) pgs_nil)))
            (pss_one (ps_if (pw_and (pt_cmpR op_notIn_seq (pv 5) (pv 2) (by rfl)) (pw_and1 (pt_cmpR (op_eqD hu64) (pe_lc (own := [("colour", 8)]) (g := gName 8) (tt := tTest (tOp (rIn K true) (tVar 8) (tVar 1))) (te := tC (.int 1)) rfl scLR.nd (pi_tup (pv 6))
                (blkOk_by (N := ["boxes", "hand", "opened", "found", "some", "number", "locks", "inside", "colour"]) (sc := defScope sLR) (by decide +kernel)) (fun _ _ _ _ _ => pg_name (i := 8) scLR.nd rfl (.inl rfl)) (fun _ _ _ _ _ => pts_one (pt_cmpR op_notIn_seq (pv 8) (pv 1) (by rfl))) (fun _ _ _ _ _ => pe_int)) (pe_lst pa_nil) (nomark _)))).pt
              (pss_one (ps_expr (pe_bm PySem.F.plainAttrs_list PySem.F.slot_list_append PySem.F.type_list_append mt_append (pv 4) (pa_cons (pv 5) pa_nil)))) pss_nil)))
          (pss_cons (ps_set (i := 2) scLR.nd rfl (.inl rfl) (pe_op op_cat (pv 2) (pv 4)))
          (pss_cons (ps_for PassesOwn.never rfl (pi_list (pv 4)) (pg_name (i := 5) scLR.nd rfl (.inl rfl)) (pss_one (ps_set (i := 1) scLR.nd rfl (.inr rfl) (pe_op op_cat (pv 1) (pe_callTy call_list_of (by rfl) B.lst boot_list (pa_cons (pe_ix ix_tup (pe_ix ix_seq (pv 0) (pv 5) (fun _ _ => rfl)) pe_int (fun _ _ => rfl)) pa_nil))))))
          (pss_one (ps_if (pt_cmpR (op_neD hu64) (pv 4) (pe_lst pa_nil) (nomark _)) (pss_one (ps_expr (pe_bm PySem.F.plainAttrs_list PySem.F.slot_list_append PySem.F.type_list_append mt_append (pv 3) (pa_cons (pe_callTy call_tupOf (by rfl) B.tup boot_tuple (pa_cons (pv 4) pa_nil)) pa_nil)))) pss_nil)))))))
        (pss_one (ps_ret (pv 3)))), LR_core (walksB_T hvs hpr) hB hF hh hl q⟩
theorem ok_LR {f : Addr} {fd : FuncData} {k : Nat} (F : Fun K "_law_rounds" "_law_rounds" sLR f fd) (B : Bu mg) (mE : mg "enumerate" = none) : FnOk P w K mg base CX0 (k + 1) f fd ["boxes", "hand"] (spLR K) := (ok_LRg F B mE).imp fun vs H Q E ⟨b, h, bs, hand, e, hB, hF, hh, hl, q⟩ => ⟨b, h, bs, hand, e, hB, hF, .inr hh, by omega, q⟩
end
end Kw
set_option Elab.async false
set_option linter.all false
set_option maxRecDepth 100000
set_option maxHeartbeats 4000000
namespace Kw
open PySem PySem.Spec PyProof.Rows L2 Evl KwX NdefX LamX
/-! ### frames -/
section
variable {K : PySem.W.Frag} {H H' H1 : Hp} {C a pl a' pl' b : Addr} {h h' : House} {s s' : KSt} {ps ps' : List KSt}
theorem st_ref {v : V} (x : StAt K H v s) : ∃ t, v = .ref t := by
  obtain ⟨t, _, _, _, _, _, h, _⟩ := x
  exact ⟨t, h⟩
theorem KpAt.ne_bag (x : KpAt K C H a pl h s ps) (hb : Bag H b) : a ≠ b ∧ pl ≠ b ∧ (∀ d n xs, H b = some (.lst [.ref d, .int n]) → H d = some (.lst (xs.map V.int)) → DrawsOk xs → a ≠ d ∧ pl ≠ d) := by
  obtain ⟨dx, hv, sv, pvs, g1, g2, _, _, g5⟩ := x
  obtain ⟨d, n, xs, h1, h2, h3⟩ := hb
  refine ⟨(fun z => by rw [z, h1] at g1; cases g1), fun z => ?_, fun d n xs k1 k2 k3 => ⟨(fun z => by rw [z, k2] at g1; cases g1), fun z => ?_⟩⟩
  · rw [z, h1] at g2
    have e := HO.lst.inj (Option.some.inj g2)
    rw [← e] at g5
    obtain ⟨y, _, hy⟩ := paired_get g5 (i := 1) (x := .int n) rfl
    obtain ⟨t, ht⟩ := st_ref hy
    cases ht
  · rw [z, k2] at g2
    have e := HO.lst.inj (Option.some.inj g2)
    rw [← e] at g5
    have hl := k3.1
    obtain ⟨y, _, hy⟩ := paired_get g5 (i := 0) (x := .int xs[0]) (by rw [List.getElem?_map, List.getElem?_eq_getElem (by omega)]; rfl)
    obtain ⟨t, ht⟩ := st_ref hy
    cases ht
theorem KpAt.bag (x : KpAt K C H a pl h s ps) (hb : Bag H b) (e : ExB b H H') : KpAt K C H' a pl h s ps := by
  obtain ⟨n1, n2, _⟩ := x.ne_bag hb
  have x' := x
  obtain ⟨dx, hv, sv, pvs, g1, g2, _⟩ := x'
  exact x.frame (hb.keepT e) (by rw [g1]; exact e _ _ n1 g1) (by rw [g2]; exact e _ _ n2 g2)
theorem KpAt.bagK (x : KpAt K C H a pl h s ps) (hb : Bag H b) (e : ExK a pl H H') : Bag H' b := by
  obtain ⟨n1, n2, n3⟩ := x.ne_bag hb
  obtain ⟨d, n, xs, h1, h2, h3⟩ := hb
  obtain ⟨m1, m2⟩ := n3 d n xs h1 h2 h3
  exact ⟨d, n, xs, e _ _ (Ne.symm n1) (Ne.symm n2) h1, e _ _ (Ne.symm m1) (Ne.symm m2) h2, h3⟩
theorem KpAt.other (x : KpAt K C H a pl h s ps) (y : KpAt K C H a' pl' h' s' ps') (na : a ≠ a') (np : pl ≠ pl') (e : ExK a pl H H') : KpAt K C H' a' pl' h' s' ps' := by
  have kT := x.keepT e
  obtain ⟨dx, hv, sv, pvs, g1, g2, _⟩ := x
  have y' := y
  obtain ⟨dy, hw, sw, pws, k1, k2, _⟩ := y'
  have m1 : a' ≠ pl := fun z => by rw [z, g2] at k1; cases k1
  have m2 : pl' ≠ a := fun z => by rw [z, g1] at k2; cases k2
  exact y.frame kT (by rw [k1]; exact e _ _ (Ne.symm na) m1 k1) (by rw [k2]; exact e _ _ m2 (Ne.symm np) k2)
theorem KpAt.tabs {T : List (Addr × Str)} (x : KpAt K C H a pl h s ps) (e : ExK a pl H H') (t : Tabs T H) : Tabs T H' := fun p hp => by
  obtain ⟨dx, hv, sv, pvs, g1, g2, _⟩ := x
  obtain ⟨ps, h1, h2, h3⟩ := t p hp
  refine ⟨ps, e _ _ (fun z => ?_) (fun z => ?_) h1, h2, fun pos cv hc => ?_⟩
  · rw [z, g1] at h1; cases h1
  · rw [z, g2] at h1; cases h1
  · obtain ⟨c, e1, e2⟩ := h3 pos cv hc
    refine ⟨c, e1, e _ _ (fun z => ?_) (fun z => ?_) e2⟩
    · rw [z, g1] at e2; unfold CodeO at e2; cases e2
    · rw [z, g2] at e2; unfold CodeO at e2; cases e2
/-- what was there before the kept house was made is as it was -/
theorem XB.kp (x : XB b H1 H) (e : ExK a pl H H') (na : H1 a = none) (np : H1 pl = none) : XB b H1 H' := fun c o n hc ht => e c o (fun z => by rw [z, na] at hc; cases hc) (fun z => by rw [z, np] at hc; cases hc) (x c o n hc ht)
end
/-! ### houses from which boxes were opened -/
/-- opened are O, broken B, and no key was laid -/
structure Run (h : House) (O B : List Nat) (s : KSt) : Prop where
  hu : s.hand.Nodup ∧ Rising s.hand
  hm : ∀ c, c ∈ s.hand ↔ c ∈ h.2 ++ keysIn h.1 O
  ou : s.op.Pairwise (· < ·)
  om : ∀ i, i ∈ s.op ↔ i ∈ O
  bu : s.br.Pairwise (· < ·)
  bm : ∀ i, i ∈ s.br ↔ i ∈ B
  ll : s.ly.length = h.1.length
  lm : ∀ i, i < h.1.length → lyAt s i = if i ∈ O then [] else (bx h.1 i).2
theorem rising_nodup {cs : List Str} (h : Rising cs) : cs.Nodup := List.nodup_iff_pairwise_ne.mpr ((rising_pwS h).imp fun {a b} (z : ltS a b) (e : a = b) => by subst e; exact ltS_ir _ z)
theorem keysIn_app (bs : List Box) (O P : List Nat) : keysIn bs (O ++ P) = keysIn bs O ++ keysIn bs P := by
  unfold keysIn
  rw [List.flatMap_append]
theorem run0 {h : House} (o : OkHouse h) : Run h [] [] (st0 h) := by
  refine ⟨⟨rising_nodup o.2.2.2.2.2, o.2.2.2.2.2⟩, fun c => ?_, .nil, fun i => Iff.rfl, .nil, fun i => Iff.rfl, by show (h.1.map (·.2)).length = _; rw [List.length_map], fun i hi => ?_⟩
  · show c ∈ h.2 ↔ c ∈ h.2 ++ keysIn h.1 []
    simp [keysIn]
  · show (h.1.map (·.2)).getD i [] = _
    rw [if_neg (by simp), List.getD_eq_getElem?_getD, List.getElem?_map, bx_get hi]
    rfl
theorem lyAt_set {s : KSt} {i : Nat} {ks : List Str} {hand : List Str} {op br : List Nat} (hi : i < s.ly.length) (j : Nat) : lyAt ⟨hand, op, br, s.ly.set i ks⟩ j = if j = i then ks else lyAt s j := by
  show (s.ly.set i ks).getD j [] = _
  rw [List.getD_eq_getElem?_getD, List.getElem?_set]
  by_cases e : i = j
  · subst e
    rw [if_pos rfl, if_pos hi, if_pos rfl]
    rfl
  · rw [if_neg e, if_neg (fun z => e z.symm)]
    unfold lyAt
    rw [List.getD_eq_getElem?_getD]
theorem Run.lift {h : House} {O B B' : List Nat} {s : KSt} {i : Nat} {br' : List Nat} (r : Run h O B s) (hi : i < h.1.length) (u : LiftOk s i) (hb : br'.Pairwise (· < ·)) (hbm : ∀ j, j ∈ br' ↔ j ∈ B') : Run h (O ++ [i]) B' (liftS s i br') := by
  have hil : i < s.ly.length := by rw [r.ll]; exact hi
  refine ⟨⟨u.1.1, u.1.2.1⟩, fun c => ?_, u.2.1, fun j => ?_, hb, hbm, by show (s.ly.set i []).length = _; rw [List.length_set]; exact r.ll, fun j hj => ?_⟩
  · show c ∈ uniL s.hand (lyAt s i) ↔ _
    rw [u.1.2.2 c, List.mem_append, r.hm c, keysIn_app, r.lm i hi]
    have e1 : keysIn h.1 [i] = (bx h.1 i).2 := by unfold keysIn; simp
    rw [e1]
    by_cases z : i ∈ O
    · rw [if_pos z]
      simp only [List.mem_append, List.not_mem_nil, or_false]
      constructor
      · rintro (w | w)
        · exact .inl w
        · exact .inr (.inl w)
      · rintro (w | w | w)
        · exact .inl w
        · exact .inr w
        · exact .inr (mem_keysIn.mpr ⟨i, z, w⟩)
    · rw [if_neg z]
      simp only [List.mem_append]
      exact or_assoc
  · show j ∈ uniN s.op [i] ↔ _
    rw [u.2.2 j, List.mem_append, List.mem_append, r.om j]
  · show lyAt ⟨_, _, _, s.ly.set i []⟩ j = _
    rw [lyAt_set hil]
    by_cases e : j = i
    · rw [if_pos e, if_pos (by rw [e]; simp)]
    · rw [if_neg e, r.lm j hj]
      by_cases z : j ∈ O
      · rw [if_pos z, if_pos (List.mem_append_left _ z)]
      · rw [if_neg z, if_neg (by simp [z, e])]
theorem names_len {cs : List Str} (nd : cs.Nodup) (h : ∀ c ∈ cs, c ∈ names12) : cs.length ≤ 12 := nodup_len nd h
theorem Run.names {h : House} {O B : List Nat} {s : KSt} (r : Run h O B s) (hn : FromNames h) (hO : ∀ i ∈ O, i < h.1.length) : ∀ c ∈ s.hand, c ∈ names12 := fun c hc => by
  rcases List.mem_append.mp ((r.hm c).mp hc) with z | z
  · exact hn.2 c z
  · obtain ⟨i, hi, hc⟩ := mem_keysIn.mp z
    exact (hn.1 _ (List.mem_of_getElem? (bx_get (hO i hi)))).2 c hc
theorem up_len {l : List Nat} {n : Nat} (h : l.Pairwise (· < ·)) (hl : ∀ i ∈ l, i < n) : l.length ≤ n := by
  have := le_of_sub (m := List.range n) (nodup_lt h) fun i hi => List.mem_range.mpr (hl i hi)
  rw [List.length_range] at this
  exact this
theorem Run.ok {h : House} {O B : List Nat} {s : KSt} (r : Run h O B s) (ho : OkHouse h) (hn : FromNames h) (hO : ∀ i ∈ O, i < h.1.length) (hB : ∀ i ∈ B, i < h.1.length) : OkK h s := by
  have h30 := ho.2.1
  have l1 := names_len r.hu.1 (r.names hn hO)
  have l2 := up_len r.ou fun i hi => hO i ((r.om i).mp hi)
  have l3 := up_len r.bu fun i hi => hB i ((r.bm i).mp hi)
  refine ⟨by omega, by omega, by omega, r.ll, fun ks hks => ?_, fun i hi => hO i ((r.om i).mp hi), ho⟩
  obtain ⟨i, hi, rfl⟩ := List.getElem_of_mem hks
  have e : s.ly[i] = lyAt s i := by unfold lyAt; rw [List.getD_eq_getElem?_getD, List.getElem?_eq_getElem hi]; rfl
  rw [e, r.lm i (by rw [← r.ll]; exact hi)]
  split
  · exact Nat.zero_le _
  · exact (ho.few.bx i).2
/-! ### rounds, each in any order -/
theorem rounds_fit (bs : List Box) (hand : List Str) : ∀ (n : Nat) (op closed : List Nat) (j : Nat) (r : List Nat), (roundsF bs n (hand ++ keysIn bs op) closed)[j]? = some r → ∀ i ∈ r, fitsB (bx bs i).1 (hand ++ keysIn bs (op ++ ((roundsF bs n (hand ++ keysIn bs op) closed).take j).flatten)) = true
  | 0, op, closed, j, r, h => by
    have h : ([] : List (List Nat))[j]? = some r := h
    simp at h
  | n + 1, op, closed, j, r, h => by
    have e : roundsF bs (n + 1) (hand ++ keysIn bs op) closed = if readyOf bs (hand ++ keysIn bs op) closed = [] then [] else readyOf bs (hand ++ keysIn bs op) closed :: roundsF bs n (hand ++ keysIn bs (op ++ readyOf bs (hand ++ keysIn bs op) closed)) (less closed (readyOf bs (hand ++ keysIn bs op) closed)) := by
      rw [keysIn_app, ← List.append_assoc]
      rfl
    rw [e] at h ⊢
    by_cases hz : readyOf bs (hand ++ keysIn bs op) closed = []
    · rw [if_pos hz] at h
      simp at h
    · rw [if_neg hz] at h ⊢
      cases j with
      | zero =>
        have hr : readyOf bs (hand ++ keysIn bs op) closed = r := by simpa using h
        intro i hi
        rw [← hr] at hi
        simp only [List.take_zero, List.flatten_nil, List.append_nil]
        exact (List.mem_filter.mp hi).2
      | succ j =>
        have := rounds_fit bs hand n (op ++ readyOf bs (hand ++ keysIn bs op) closed) (less closed (readyOf bs (hand ++ keysIn bs op) closed)) j r (by simpa using h)
        intro i hi
        have z := this i hi
        rw [List.take_succ_cons, List.flatten_cons, ← List.append_assoc]
        exact z
theorem fits_mono {ls hs ks : List Str} (h : fitsB ls hs = true) (hk : ∀ c ∈ hs, c ∈ ks) : fitsB ls ks = true := fits_iff.mpr fun c hc => hk c (fits_iff.mp h c hc)
theorem keysIn_mono {bs : List Box} {O P : List Nat} (h : ∀ i ∈ O, i ∈ P) : ∀ c ∈ keysIn bs O, c ∈ keysIn bs P := fun c hc => by
  obtain ⟨i, hi, hc⟩ := mem_keysIn.mp hc
  exact mem_keysIn.mpr ⟨i, h i hi, hc⟩
theorem Run.fits {h : House} {O : List Nat} {s : KSt} {i : Nat} (r : Run h O [] s) : missing (locksOf h s i) s.hand = none ↔ fitsB (bx h.1 i).1 (h.2 ++ keysIn h.1 O) = true := by
  have e : locksOf h s i = (bx h.1 i).1 := by
    unfold locksOf
    rw [if_neg (fun z => by have := (r.bm i).mp z; cases this)]
  rw [e]
  constructor
  · intro hm
    refine fits_iff.mpr fun c hc => (r.hm c).mp ?_
    exact Classical.byContradiction fun z => by
      have key : ∀ {ls : List Str}, c ∈ ls → missing ls s.hand ≠ none := fun {ls} => by
        induction ls with
        | nil => intro h; cases h
        | cons a t ih =>
          intro hc
          show (if a ∈ s.hand then _ else _) ≠ none
          by_cases ha : a ∈ s.hand
          · rw [if_pos ha]
            rcases List.mem_cons.mp hc with w | w
            · rw [w] at z; exact absurd ha z
            · exact ih w
          · rw [if_neg ha]
            exact fun y => by cases y
      exact key hc hm
  · intro hf
    exact miss_none fun c hc => (r.hm c).mpr (fits_iff.mp hf c hc)
theorem Run.lyAll {h : House} {O B : List Nat} {s : KSt} {i : Nat} (r : Run h O B s) (hi : i < h.1.length) (hO : i ∈ O) : lyAt s i = [] := by rw [r.lm i hi, if_pos hO]
end Kw
set_option Elab.async false
set_option linter.all false
set_option maxRecDepth 100000
set_option maxHeartbeats 4000000
namespace Kw
open PySem PySem.Spec PyProof.Rows L2 Evl KwX NdefX LamX
section
variable {P : Program} {w : World} {K : PySem.W.Frag} {mg : Str → Option Value} {base : Heap} {CK XL : Addr} {CD : Nat → Addr}
/-- lambda a, b, c: a.m(b) -/
def spLamM (CK : Addr) (m : Str) (spX : Sp) : Sp := fun vs H Q E => ∃ v y z, vs = [v, y, z] ∧ ∃ a dx fs, v = .ref a ∧ H a = some (.ins CK dx fs) ∧ fs.lookup m = none ∧ spX [v, y] H Q E
theorem lok_mth {f : Addr} {fd : FuncData} {ps : List Str} {spX : Sp} {k : Nat} {F : NF} {m : Str} {pp p1 pA pos : Pos} (S : NScope ["a", "b", "c"] ["a", "b", "c"] [] F.scope) (cl0 : F.cl = [])
    (hb : ∀ (pm ctv : Value) (us : List Value), us.length = 3 → bindArgs (PySem.W.kla_fn F.name F.qual F.params (.Call (.Attribute (.Name "a" pp) m pA) [.Name "b" p1] [] pos) F.scope F.cl pm (.ref F.c) ctv) ⟨us, []⟩ = pure ((["a", "b", "c"] : List Str).zip us))
    (ht : ∀ g n : Addr, ∃ pl, eval (.Call (.Attribute (.Name "a" pp) m pA) [.Name "b" p1] [] pos) (envF F g n) = (do
      let ov ← eval (.Name "a" pp) (envF F g n)
      standAt pA.atName
      let (f1, first) ← holding [ov] (getMethod ov m pl)
      callWith pos f1 first (backTo pos (starEach [.Name "b" p1] (envF F g n))) (backToKw pos (keywordEach [] (envF F g n)))))
    (c : Cls K CK) (M : Meth K CK m f) (bn : Binds K fd ps []) (GL : FnOk P w K mg base (L2N.CX P w) k f fd ps spX) :
    LOk P w K mg base (L2N.CX P w) (k + 1) F (.Call (.Attribute (.Name "a" pp) m pA) [.Name "b" p1] [] pos) ["a", "b", "c"] (spLamM CK m spX) := by
  refine lok_of S cl0 hb (fun vs H Q E h => ?_) (fun g A outer s H vs Q E hr h => ?_)
  · obtain ⟨v, y, z, rfl, _⟩ := h
    rfl
  · obtain ⟨v, y, z, rfl, a, dx, fs, rfl, ha, hm, h⟩ := h
    obtain ⟨plq, eq⟩ := ht g s.heap.objs.size
    refine ⟨_, pe_meth (pl := plq) (E := E) (pe_var (i := 0) rfl (.inl (S.par "a" (by decide +kernel)))) c M GL hr bn .nil (L2N.passes_call (L2N.takes_of rfl rfl rfl rfl) fun _ _ _ _ h => h) (pa_cons (pe_var (i := 1) rfl (.inl (S.par "b" (by decide +kernel)))) pa_nil) (ht := eq), ?_⟩
    exact ⟨.ref a, rfl, a, dx, fs, rfl, ha, hm, y, rfl, h⟩
end
section
variable {K : PySem.W.Frag} {T : List (Addr × Str)} {σ : L2.St} {H : Hp} {D : Ends} {t tu tz : TS} {ta : TA} {tb tc te : TE} {mk : Addr → NF} {b : Expr} {spL : Sp} {d : Nat → Addr} {rs : Nat → Bool} {rT rL : Bool} {dT dL : Addr} {CK XL : Addr} {CD : Nat → Addr}
theorem q_mid (Φ : L2.St → Hp → Prop) (h2 : ∀ σ' H', Φ σ' H' → tz D σ' H') (h1 : ∀ N : L2.St → Hp → Prop, (∀ σ' H', Φ σ' H' → N σ' H') → t { D with nx := N } σ H) : tSeq t tz D σ H := h1 _ h2
/-- if _law_refused(lambda .., ..)[:1] != ["Locked"]: .. -/
theorem s_refL {c : Str} {v1 v2 v3 : V} (hT : Tabs T H) (ha : ∀ H1, ExtN H H1 → EvA ta σ H1 [v1, v2, v3])
    (hL : ∀ H1, ExtN H H1 → Ends4 d spL [v1, v2, v3] rs rT rL dT dL H1 (OnlyO (.locked c) H1)) (k : ∀ H1, ExtN H H1 → Tabs T H1 → D.nx σ H1) (hmk : ∀ c', (mk c').c = c' := by intro _; rfl) :
    tIfS (tTest (tOp (rNeD K) (tSl (rSlL K) (tCall (spRefG d mk b spL rs rT rL dT dL) [] E0 (tCons (tLamV T mk b) ta)) tNoPart (tPart (tC (.int 1)))) (tLst (tCons (tC (.str "Locked")) tNil)))) tu tNext D σ H := by
  refine ref_run (.locked c) hT ha hL (fun p H1 eN T1 hp => ?_) hmk
  refine ⟨1, rfl, p, _, rfl, sq_of hp, fun q nq => ?_⟩
  have ec : cutV (resO (.locked c)) none (some 1) = [.str "Locked"] := rfl
  rw [ec]
  have e2 := Ex.new (o := .lst [.str "Locked"]) nq
  refine ⟨by show 1 ≤ sizeLine; decide, fun r nr => ?_⟩
  have e3 := Ex.new (o := .lst [.str "Locked"]) nr
  refine rv_neDp (K := K) (d := .list [.str "Locked"]) (e := .list [.str "Locked"]) (.lst (sq_of (e3 _ _ upd_same)) (.cons (.str _) .nil)) (.lst (sq_of upd_same) (.cons (.str _) .nil)) (by decide +kernel) (by decide +kernel) _ (Ex.refl _) _ fun H4 e4 => ⟨_, rfl, ?_⟩
  rw [show PyData.eqv (.list [.str "Locked"]) (.list [.str "Locked"]) = true by decide +kernel]
  have eA := (e2.trans e3).trans e4
  exact k H4 (fun b o hb n => eA _ _ (eN b o hb n)) (T1.ext eA)
/-! ### readings of a kept house -/
theorem mk_kept {i : Nat} {v : V} {h : House} {Q : VK} (hv : σ[i]? = some (some v)) (hA : HouseAt K H v h) (ho : OkHouse h) (k : ∀ a pl H', Ex H H' → H a = none → H pl = none → KpAt K CK H' a pl h (st0 h) [] → Q (.ref a) H') : tMake CK (spKpI K CK CD XL) [] E0 (tCons (tVar i) tNil) σ H Q := by
  refine ⟨v, hv, fun x dx nx nd ne => ?_⟩
  have f1 := Ex.new (o := .own x) nd
  have nx' : upd H dx (.own x) x = none := by rw [upd_ne (Ne.symm ne)]; exact nx
  have f2 := f1.trans (Ex.new (o := .ins CK dx []) nx')
  refine ⟨x, dx, v, encH h, rfl, upd_same, dp_house (hA.keep (KeepT.ex f2)), stB_house ho, (fun z => by rw [house_ok ho] at z; cases z), fun _ => ⟨h, hA.keep (KeepT.ex f2), ho, fun pl H' xf np hK => ⟨rfl, ?_⟩⟩⟩
  exact k x pl H' (fun c o hc => xf c o (ne_of_none hc nx) (f2 c o hc)) nx (fresh_back f2 np) hK
variable {a pl : Addr} {h : House} {s : KSt} {ps : List KSt} {i : Nat}
theorem ev_can (h0 : σ[i]? = some (some (.ref a))) (hK : KpAt K CK H a pl h s ps) (ok : OkK h s) : Ev (tMeth CK "can_all" (spKpA K CK CD XL) [] E0 (tVar i) tNil) σ H (.bl (canB h s)) := fun H1 e Q q => by
  have hK' := hK
  obtain ⟨dx, hv, sv, pvs, g1, _⟩ := hK'
  exact ⟨.ref a, h0, a, dx, _, rfl, e _ _ g1, rfl, a, pl, h, s, ps, rfl, hK.ex e, ok, fun H2 e2 => q H2 e2⟩
theorem ep_hand (h0 : σ[i]? = some (some (.ref a))) (hK : KpAt K CK H a pl h s ps) : EvP (tMeth CK "hand" (spKpH K CK CD XL) [] E0 (tVar i) tNil) σ H (IsT K (s.hand.map V.str)) := fun H1 e Q q => by
  have hK' := hK
  obtain ⟨dx, hv, sv, pvs, g1, _⟩ := hK'
  exact ⟨.ref a, h0, a, dx, _, rfl, e _ _ g1, rfl, a, pl, h, s, ps, rfl, hK.ex e, fun p hp => q _ H1 (Ex.refl H1) ⟨p, rfl, hp⟩⟩
theorem ep_opened (h0 : σ[i]? = some (some (.ref a))) (hK : KpAt K CK H a pl h s ps) : EvP (tMeth CK "opened" (spKpP K CK CD XL) [] E0 (tVar i) tNil) σ H (IsT K (s.op.map vN)) := fun H1 e Q q => by
  have hK' := hK
  obtain ⟨dx, hv, sv, pvs, g1, _⟩ := hK'
  exact ⟨.ref a, h0, a, dx, _, rfl, e _ _ g1, rfl, a, pl, h, s, ps, rfl, hK.ex e, fun p hp => q _ H1 (Ex.refl H1) ⟨p, rfl, hp⟩⟩
theorem ep_broken (h0 : σ[i]? = some (some (.ref a))) (hK : KpAt K CK H a pl h s ps) : EvP (tMeth CK "broken" (spKpN K CK CD XL) [] E0 (tVar i) tNil) σ H (IsT K (s.br.map vN)) := fun H1 e Q q => by
  have hK' := hK
  obtain ⟨dx, hv, sv, pvs, g1, _⟩ := hK'
  exact ⟨.ref a, h0, a, dx, _, rfl, e _ _ g1, rfl, a, pl, h, s, ps, rfl, hK.ex e, fun p hp => q _ H1 (Ex.refl H1) ⟨p, rfl, hp⟩⟩
theorem ep_inside {j n : Nat} (h0 : σ[i]? = some (some (.ref a))) (hj : σ[j]? = some (some (vN n))) (hK : KpAt K CK H a pl h s ps) (ll : s.ly.length = h.1.length) (hn : n < h.1.length) : EvP (tMeth CK "inside" (spKpD K CK CD XL) [] E0 (tVar i) (tCons (tVar j) tNil)) σ H (IsT K ((lyAt s n).map V.str)) := fun H1 e Q q => by
  have hK' := hK
  obtain ⟨dx, hv, sv, pvs, g1, _⟩ := hK'
  exact ⟨.ref a, h0, a, dx, _, rfl, e _ _ g1, rfl, vN n, hj, a, pl, h, s, ps, vN n, .int n, rfl, hK.ex e, ll, .int _, (fun z => by rw [boxN_nat hn] at z; cases z), fun m hm p H2 e2 hp => by
    rw [boxN_nat hn] at hm
    cases hm
    exact q _ H2 e2 ⟨p, rfl, hp⟩⟩
theorem ev_nePN {xs ys : List Nat} (ha : EvP tb σ H (IsT K (xs.map vN))) (hb : ∀ H1, Ex H H1 → EvP tc σ H1 (IsT K (ys.map vN))) : Ev (tOp (rNeD K) tb tc) σ H (.bl (!decide (xs = ys))) := fun H1 e Q q => ha H1 e _ fun v H2 e2 ⟨p, hv, hp⟩ => hb H2 (e.trans e2) H2 (Ex.refl H2) _ fun u H3 e3 ⟨r, hu, hr⟩ => by
  subst hv hu
  exact rv_neTN (K := K) (ex_t e3 hp) hr H3 (Ex.refl H3) _ fun H4 e4 => q H4 ((e2.trans e3).trans e4)
theorem ev_nePS {xs ys : List Str} (ox : ColsOk xs) (oy : ColsOk ys) (ha : EvP tb σ H (IsT K (xs.map V.str))) (hb : ∀ H1, Ex H H1 → EvP tc σ H1 (IsT K (ys.map V.str))) : Ev (tOp (rNeD K) tb tc) σ H (.bl (!decide (xs = ys))) := fun H1 e Q q => ha H1 e _ fun v H2 e2 ⟨p, hv, hp⟩ => hb H2 (e.trans e2) H2 (Ex.refl H2) _ fun u H3 e3 ⟨r, hu, hr⟩ => by
  subst hv hu
  have := rv_neDp (K := K) (dp_cols (ex_t e3 hp)) (dp_cols hr) ((shp_cols ox).ok (by decide)) ((shp_cols oy).ok (by decide)) H3 (Ex.refl H3) Q fun H4 e4 => by
    rw [eqE_cols]
    exact q H4 ((e2.trans e3).trans e4)
  exact this
theorem ep_isU {xs : List V} (h : EvU te σ H xs) : EvP te σ H (IsT K xs) := fun H1 e Q q => h H1 e Q fun p H2 _ e2 hp => q _ H2 e2 ⟨p, rfl, st_of hp⟩
theorem ep_isV {xs : List V} {p : Addr} (h : σ[i]? = some (some (.ref p))) (hp : SqT K H p xs) : EvP (tVar i) σ H (IsT K xs) := ep_var h fun H1 e => ⟨p, rfl, ex_t e hp⟩
end
theorem miss_mem {hs : List Str} {c : Str} : ∀ {ls : List Str}, missing ls hs = some c → c ∈ ls
  | [], h => by cases h
  | a :: r, h => by
    have h : (if a ∈ hs then missing r hs else some a) = some c := h
    split at h
    · exact List.mem_cons_of_mem _ (miss_mem h)
    · rw [Option.some.inj h]
      exact List.mem_cons_self ..
theorem flat_at {l : List (List Nat)} {j : Nat} {r : List Nat} (nd : l.flatten.Nodup) (hj : l[j]? = some r) : r.Nodup ∧ (∀ i ∈ r, i ∉ (l.take j).flatten) ∧ (l.take (j + 1)).flatten = (l.take j).flatten ++ r := by
  have e : (l.take (j + 1)).flatten = (l.take j).flatten ++ r := by
    rw [List.take_add_one, hj, List.flatten_append]
    simp
  have e2 : l.flatten = (l.take (j + 1)).flatten ++ (l.drop (j + 1)).flatten := by rw [← List.flatten_append, List.take_append_drop]
  rw [e2, e] at nd
  have n1 := (List.nodup_append.mp nd).1
  have n2 := List.nodup_append.mp n1
  exact ⟨n2.2.1, fun i hi z => n2.2.2 i z i hi rfl, e⟩
theorem rounds_fit0 {bs : List Box} {hand : List Str} {cl : List Nat} {j : Nat} {r : List Nat} (h : (roundsOf bs hand cl)[j]? = some r) : ∀ i ∈ r, fitsB (bx bs i).1 (hand ++ keysIn bs ((roundsOf bs hand cl).take j).flatten) = true := by
  have e : hand ++ keysIn bs [] = hand := by simp [keysIn]
  have := rounds_fit bs hand (cl.length + 1) [] cl j r (by rw [e]; exact h)
  rw [e] at this
  exact this
end Kw
set_option Elab.async false
set_option linter.all false
set_option maxRecDepth 100000
set_option maxHeartbeats 4000000
namespace Kw
open PySem PySem.Spec PyProof.Rows L2 Evl
section
variable {K : PySem.W.Frag} {σ : L2.St} {H H' : Hp} {ta tb tc te tl : TE} {t u : TT} {x y z v : V} {r r' : R2}
def rReprB : List V → Hp → VK → Prop := fun xs H Q => ∃ b : Bool, xs = [.bl b] ∧ Q (.str (if b then "True" else "False")) H
theorem cr_reprB {X : Cx} : CallR X (.builtin "repr") rReprB := by
  intro pins s σ H vs us Q I r h
  obtain ⟨b, rfl, q⟩ := h
  obtain ⟨u, rfl, ru⟩ := vals1 r
  cases (show u = Value.bool b from ru)
  exact PySem.P.repr_of_bool ⟨.str _, H, I.tok _, ⟨_, rfl⟩, q⟩
theorem ev_reprB {b : Bool} (ha : Ev ta σ H (.bl b)) : Ev (tCB rReprB (tCons ta tNil)) σ H (.str (if b then "True" else "False")) := fun H1 e Q q =>
  ha H1 e _ fun H2 e2 => ⟨b, rfl, q H2 e2⟩
end
end Kw
set_option Elab.async false
set_option linter.all false
set_option maxRecDepth 100000
set_option maxHeartbeats 4000000
namespace Kw
open PySem PySem.Spec PyProof.Rows L2 Evl KwX NdefX LamX
abbrev sLSt : Stmt := topS 58
theorem scLSt : FnScope ["house", "kept", "state", "hand", "opened", "broken", "inside", "keys", "boxes", "number", "some"] ["house", "kept", "state"] (defScope sLSt) := ⟨rfl, rfl, rfl, by decide +kernel, rfl, by decide +kernel, by decide +kernel⟩
/-! ### _law_stands -/
theorem roundsF_len (bs : List Box) : ∀ (n : Nat) (held : List Str) (closed : List Nat), (roundsF bs n held closed).length ≤ n
  | 0, _, _ => Nat.le_refl _
  | n + 1, held, closed => by
    show (if readyOf bs held closed = [] then [] else readyOf bs held closed :: roundsF bs n (held ++ keysIn bs (readyOf bs held closed)) (less closed (readyOf bs held closed))).length ≤ _
    split
    · exact Nat.zero_le _
    · exact Nat.succ_le_succ (roundsF_len bs n _ _)
section
variable {K : PySem.W.Frag} {σ : L2.St} {H H' : Hp} {ta tb te tl : TE} {D : Ends} {tz : TS} {CK XL : Addr} {CD : Nat → Addr}
theorem q_parL2 {i j : Nat} {xs ys : List V} (h1 : EvL ta σ H xs) (h2 : ∀ H1, Ex H H1 → EvL tb σ H1 ys)
    (k : ∀ p q H1 H2, H p = none → Ex H H1 → H1 p = some (.lst xs) → H1 q = none → Ex H1 H2 → H2 q = some (.lst ys) → tz D ((σ.set i (some (.ref p))).set j (some (.ref q))) H2) : tSeq (tPar i j (tCons ta (tCons tb tNil))) tz D σ H :=
  h1 H (Ex.refl H) _ fun p H1 np e1 hp => h2 H1 e1 H1 (Ex.refl H1) _ fun q H2 nq e2 hq => ⟨.ref p, .ref q, rfl, k p q H1 H2 np e1 hp nq e2 hq⟩
theorem ev_lenK2 {i : Nat} {a pl : Addr} {h : House} {s : KSt} {ps : List KSt} (h0 : σ[i]? = some (some (.ref a))) (hK : KpAt K CK H a pl h s ps) (hl : s.op.length ≤ 1000) : Ev (tCB (KwX.rLenI CK (spKpL K CK CD XL) E0) (tCons (tVar i) tNil)) σ H (.int (s.op.length : Int)) := fun H1 e Q q => by
  have hK' := hK
  obtain ⟨dx, hv, sv, pvs, g1, _⟩ := hK'
  exact ⟨.ref a, h0, a, dx, _, rfl, e _ _ g1, a, pl, h, s, ps, rfl, hK.ex e, fun H2 e2 => ⟨s.op.length, rfl, by omega, q H2 e2⟩⟩
theorem s_appP2 {Φ : V → Hp → Prop} {j : Nat} {l : Addr} {xs : List V} (h : EvP te σ H Φ) (hj : σ[j]? = some (some (.ref l))) (hM : H l = some (.lst xs)) (hx : xs.length ≤ 1000) (k : ∀ v H1, Ex H H1 → Φ v H1 → D.nx σ (upd H1 l (.lst (xs ++ [v])))) :
    tDrop (tBM K "list" rAppend (tVar j) (tCons te tNil)) D σ H :=
  ⟨.ref l, hj, .inl ⟨rfl, _, sq_of hM⟩, h H (Ex.refl H) _ fun v H1 e hv => ⟨l, xs, v, rfl, rfl, e _ _ hM, sz_lt (by omega), k v H1 e hv⟩⟩
def rI1 : List V → Hp → VK → Prop := fun xs H Q => (∃ i, xs = [.int i] ∧ Q (.int i) H) ∨ ∃ k, xs = [.bl k] ∧ Q (.int (if k then 1 else 0)) H
theorem el_rep01 {xs : List V} {b : Bool} (h : EvL te σ H xs) (hb : Ev tb σ H (.bl b)) (hn : xs.length ≤ 1000) : EvL (tOp rRep te (tCB rI1 (tCons tb tNil))) σ H (if b = true then xs else []) := fun H1 e Q q => h H1 e _ fun p H2 np e2 hp => hb H2 (e.trans e2) _ fun H3 e3 => Or.inr ⟨b, rfl, p, _, xs, rfl, rfl, e3 _ _ hp, by cases b <;> decide, by cases b <;> decide, by
    have : (if b = true then (1 : Int) else 0).toNat ≤ 1 := by cases b <;> decide
    exact sz_of (Nat.le_trans (Nat.mul_le_mul_left _ this) (by omega)), fun r nr => by
    have : (List.replicate (if b = true then (1 : Int) else 0).toNat xs).flatten = if b = true then xs else [] := by
      cases b
      · rfl
      · show xs ++ [] = xs
        rw [List.append_nil]
    rw [this]
    exact q r _ (fresh_back (e2.trans e3) nr) ((e2.trans e3).trans (Ex.new nr)) upd_same⟩
/-- sum([len(some) for some in rounds]) -/
theorem ev_sumR {rs : List (List Nat)} {j : Nat} (h : EvR K te σ H rs) (hl : rs.length ≤ 1000) (hw : ∀ v, wipe ((wipe σ [j]).set j (some v)) [j] = wipe σ [j] ∧ ((wipe σ [j]).set j (some v))[j]? = some (some v)) : Ev (tCB (rSum K) (tCons (tLc (iList K te) (gName j) tYes (tCB (rLenS K) (tCons (tVar j) tNil)) [j]) tNil)) σ H (vN rs.flatten.length) := by
  have h1 := ev_sum (K := K) (σ := σ) (H := H) (ns := rs.map fun r => (r.length : Int)) (ta := tLc (iList K te) (gName j) tYes (tCB (rLenS K) (tCons (tVar j) tNil)) [j]) (by
    refine el_lc (ew_tups h) (by omega) (fun _ => true) (fun k => .int ((rs.getD k []).length : Int)) ?_ (fun k x H1 H2 Q e hk hy q => ?_)
    · rw [filter_true, List.map_map]
      apply List.ext_getElem?
      intro n
      rw [List.getElem?_map, List.getElem?_map]
      by_cases z : n < rs.length
      · rw [List.getElem?_range z, List.getElem?_eq_getElem z]
        show some (V.int ((rs.getD n []).length : Int)) = _
        rw [List.getD_eq_getElem?_getD, List.getElem?_eq_getElem z]
        rfl
      · rw [List.getElem?_eq_none (by rw [List.length_range]; omega), List.getElem?_eq_none (by omega)]
        rfl
    · obtain ⟨rfl, ad, r, hr', rfl, had⟩ := hy
      have hg : rs.getD k [] = r := by rw [List.getD_eq_getElem?_getD, hr']; rfl
      refine q _ _ (Ex.refl _) (hw (.ref ad)).1 et_yes fun _ => ?_
      have := ev_lenT (K := K) (σ := (wipe σ [j]).set j (some (.ref ad))) (ev_var (v := .ref ad) (hw (.ref ad)).2) had
      rw [List.length_map] at this
      rw [hg]
      exact this)
  have e1 : (rs.map fun r => (r.length : Int)).sum = ((rs.flatten.length : Nat) : Int) := by
    clear h1 h hl hw
    induction rs with
    | nil => rfl
    | cons a r ih => rw [List.map_cons, List.sum_cons, ih, List.flatten_cons, List.length_append]; omega
  rw [e1] at h1
  exact h1
end
section
variable {P : Program} {w : World} {K : PySem.W.Frag} {mg : Str → Option Value} {base : Heap}
def spLSt (K : PySem.W.Frag) (CK : Addr) : Sp := fun vs H Q _ => ∃ (a pl : Addr) (hv sv : V) (h : House) (s : KSt) (ps : List KSt), vs = [hv, .ref a, sv] ∧ HouseAt K H hv h ∧ KpAt K CK H a pl h s ps ∧ StAt K H sv s ∧ SOk h s ∧ RetV (.bl true) H Q
theorem ok_LSt {f fLR fKpH fKpP fKpN fKpL fKpD fKpA : Addr} {fd fdLR fdKpH fdKpP fdKpN fdKpL fdKpD fdKpA : FuncData} {k : Nat} (F : Fun K "_law_stands" "_law_stands" sLSt f fd) (CL : KCls K mg CK) (DLR : Df K mg "_law_rounds" sLR ["boxes", "hand"] fLR fdLR) (MKpH : MetD K CK "hand" sKpH ["self"] fKpH fdKpH) (MKpP : MetD K CK "opened" sKpP ["self"] fKpP fdKpP) (MKpN : MetD K CK "broken" sKpN ["self"] fKpN fdKpN) (MKpL : MetD K CK "__len__" sKpL ["self"] fKpL fdKpL) (MKpD : MetD K CK "inside" sKpD ["self", "box"] fKpD fdKpD) (MKpA : MetD K CK "can_all" sKpA ["self"] fKpA fdKpA) (GLR : FnOk P w K mg base CX0 (k + 1) fLR fdLR ["boxes", "hand"] (spLRg K)) (GKpH : FnOk P w K mg base (L2N.CX P w) (k + 1) fKpH fdKpH ["self"] (spKpH K CK CD XL)) (GKpP : FnOk P w K mg base (L2N.CX P w) (k + 1) fKpP fdKpP ["self"] (spKpP K CK CD XL)) (GKpN : FnOk P w K mg base (L2N.CX P w) (k + 1) fKpN fdKpN ["self"] (spKpN K CK CD XL)) (GKpL : FnOk P w K mg base (L2N.CX P w) (k + 1) fKpL fdKpL ["self"] (spKpL K CK CD XL)) (GKpD : FnOk P w K mg base (L2N.CX P w) (k + 4) fKpD fdKpD ["self", "box"] (spKpD K CK CD XL)) (GKpA : FnOk P w K mg base (L2N.CX P w) (k + 5) fKpA fdKpA ["self"] (spKpA K CK CD XL)) (B : Bu mg) (mE : mg "enumerate" = none) : FnOk P w K mg base CX0 (k + 6) f fd ["house", "kept", "state"] (spLSt K CK) := by
  refine F.ok scLSt (fun vs H Q E h => ?_) (fun cdv A outer s H vs Q E hr h => ?_)
  · obtain ⟨a, pl, hv, sv, h, s, ps, rfl, _⟩ := h
    rfl
  · obtain ⟨a, pl, hv, sv, h, s, ps, rfl, hA, hK, hS, ok, q⟩ := h
    have hu64 := hr.units
    refine ⟨_, (pss_cons (ps_asg (pv 2) (pg_tup rfl (pgs_cons (pg_name (i := 3) scLSt.nd rfl (.inl rfl)) (pgs_cons (pg_name (i := 4) scLSt.nd rfl (.inl rfl)) (pgs_cons (pg_name (i := 5) scLSt.nd rfl (.inl rfl)) (pgs_cons (pg_name (i := 6) scLSt.nd rfl (.inl rfl)) pgs_nil))))))
      (pss_cons (ps_if (PW.pt (pw_or (pt_cmpR (op_neD hu64) (pe_meth0 (E := E0) (pv 1) CL.c MKpH.M GKpH (hr.mono (by omega)) MKpH.b .nil passN) (pv 3) (nomark _)) (pw_or (pt_cmpR (op_neD hu64) (pe_meth0 (E := E0) (pv 1) CL.c MKpP.M GKpP (hr.mono (by omega)) MKpP.b .nil passN) (pv 4) (nomark _)) (pw_or (pt_cmpR (op_neD hu64) (pe_meth0 (E := E0) (pv 1) CL.c MKpN.M GKpN (hr.mono (by omega)) MKpN.b .nil passN) (pv 5) (nomark _)) (pw_or1 (pt_cmpR op_ne (pe_callB (KwX.cr_lenI GKpL MKpL.M.at_ MKpL.M.fn MKpL.b (hr.mono (by omega)) passN) (by rfl) B.len PySem.boot_len (pa_cons (pv 1) pa_nil)) (pe_callB call_len_seq (by rfl) B.len PySem.boot_len (pa_cons (pv 4) pa_nil)) (nomark _))))))) (pss_one (ps_ret pe_bl)) pss_nil)
      (pss_cons (ps_par (i := 7) (j := 8) (by rfl) scLSt.nd rfl rfl (by decide) rfl rfl (pa_cons (pe_callTy call_list_of (by rfl) B.lst boot_list (pa_cons (pv 3) pa_nil)) (pa_cons (pe_lst pa_nil) pa_nil)) (by rfl))
      (pss_cons (ps_for PassesOwn.never rfl (pi_enT (by rfl) B.enu (pa_cons (pv 6) pa_nil)) (pg_tup rfl (pgs_cons (pg_name (i := 9) scLSt.nd rfl (.inl rfl)) (pgs_cons (pg_name (i := 10) scLSt.nd rfl (.inl rfl)) pgs_nil)))
      (pss_cons (ps_if (pt_cmpR (op_neD hu64) (pe_meth (E := E0) (pv 1) CL.c MKpD.M GKpD (hr.mono (by omega)) MKpD.b .nil passN (pa_cons (pv 9) pa_nil)) (pv 10) (nomark _)) (pss_one (ps_ret pe_bl)) pss_nil)
      (pss_cons (ps_set (i := 7) scLSt.nd rfl (.inl rfl) (pe_op op_cat (pv 7) (pe_op op_rep (pe_callTy call_list_of (by rfl) B.lst boot_list (pa_cons (pv 10) pa_nil)) (pe_callTy call_int1 (by rfl) B.int boot_int (pa_cons (pe_cmpR op_in_seq (pv 9) (pv 4) (by rfl)) pa_nil)))))
      (pss_one (ps_expr (pe_bm PySem.F.plainAttrs_list PySem.F.slot_list_append PySem.F.type_list_append mt_append (pv 8) (pa_cons (pe_tup (pa_cons (pe_ifExp (PW.pt (pw_or (pt_cmpR op_in_seq (pv 9) (pv 4) (by rfl)) (pw_or1 (pt_cmpR op_in_seq (pv 9) (pv 5) (by rfl))))) (pe_tup pa_nil) (pe_ix ix_tup (pe_ix ix_tup (pe_ix ix_tup (pv 0) pe_int (fun _ _ => rfl)) (pv 9) (fun _ _ => rfl)) pe_int (fun _ _ => rfl))) (pa_cons (pv 10) pa_nil))) pa_nil)))))))
      (pss_one (ps_ret (pe_cmpR op_eq (pe_callB cr_reprB (by rfl) B.rpr (by decide +kernel) (pa_cons (pe_meth0 (E := E0) (pv 1) CL.c MKpA.M GKpA (hr.mono (by omega)) MKpA.b .nil passN) pa_nil)) (pe_callB cr_reprB (by rfl) B.rpr (by decide +kernel) (pa_cons (pe_cmpR op_eq (pe_callB (cr_sum rfl) (by rfl) B.sum (by decide +kernel) (pa_cons (pe_lc (own := [("some", 10)]) (g := (gName 10)) (tt := tYes) (te := (tCB (rLenS K) (tCons (tVar 10) tNil))) rfl scLSt.nd (pi_list (pcall DLR GLR (hr.mono (by omega)) (pa_cons (pv 8) (pa_cons (pv 7) pa_nil)))) (blkOk_by (N := ["house", "kept", "state", "hand", "opened", "broken", "inside", "keys", "boxes", "number", "some"]) (sc := defScope sLSt) (by decide +kernel)) (fun _ _ _ _ _ => (pg_name (i := 10) scLSt.nd rfl (.inl rfl))) (fun _ _ _ _ _ => pts_nil) (fun _ _ _ _ _ => (pe_callB call_len_seq (by rfl) B.len PySem.boot_len (pa_cons (pv 10) pa_nil)))) pa_nil)) (pe_callB call_len_seq (by rfl) B.len PySem.boot_len (pa_cons (pv 8) pa_nil)) (nomark _)) pa_nil)) (nomark _)))))))), ?_⟩
    obtain ⟨st, ha, oa, ba, la, lvs, rfl, hS⟩ := hS
    have hA0 := hA
    obtain ⟨hva, hba, hka, rfl, hA1, ⟨bvs, hb1, hb2⟩, hA3⟩ := hA
    have o40 := ok.ok.ol
    have b40 := ok.ok.bl
    have h40 := ok.ok.hl
    have ll := ok.ok.ll
    have h30 := ok.ok.oh.2.1
    have hlv : lvs.length = s.ly.length := paired_len hS.ls
    refine ⟨.ref st, rfl, st, _, rfl, hS.t, rfl, .ref ha, _, rfl, .ref oa, _, rfl, .ref ba, _, rfl, .ref la, _, rfl, rfl, ?_⟩
    refine q_when (σ := [some (.ref hva), some (.ref a), some (.ref st), some (.ref ha), some (.ref oa), some (.ref ba), some (.ref la), none, none, none, none]) (b := false) (et_is (et_or (et_test (ev_nePS (K := K) ok.c.h ok.c.h (ep_hand (K := K) (CD := CD) (XL := XL) rfl hK) (fun G g => ep_isV rfl (ex_t g hS.h)))) fun _ => et_or (et_test (ev_nePN (K := K) (ep_opened (K := K) (CD := CD) (XL := XL) rfl hK) (fun G g => ep_isV rfl (ex_t g hS.o)))) fun _ => et_or (et_test (ev_nePN (K := K) (ep_broken (K := K) (CD := CD) (XL := XL) rfl hK) (fun G g => ep_isV rfl (ex_t g hS.b)))) fun _ => et_test (ev_op (ev_lenK2 (K := K) (CD := CD) (XL := XL) rfl hK (by omega)) (ev_lenT (K := K) (ev_var (v := .ref oa) rfl) hS.o) (rv_ne rfl))) (by rw [List.length_map]; simp)) (fun hb => by cases hb) (fun _ H1 e1 => ?_)
    refine q_parL2 (σ := [some (.ref hva), some (.ref a), some (.ref st), some (.ref ha), some (.ref oa), some (.ref ba), some (.ref la), none, none, none, none]) (i := 7) (j := 8) (el_listT (K := K) (ev_var (v := .ref ha) rfl) (ex_t e1 hS.h)) (fun G g => el_lst ea_nil (by decide)) fun kl bl H2 H3 nk e2 hkl nb e3 hbl => ?_
    have E3 := (e1.trans e2).trans e3
    have nbH : H bl = none := fresh_back (e1.trans e2) nb
    have dkb : kl ≠ bl := fun z => by rw [z, nb] at hkl; cases hkl
    refine ⟨.ref la, rfl, la, lvs, rfl, ex_t E3 hS.l, ?_⟩
    refine for_it (walk_enT (K := K) (a := la) (xs := lvs)) (fun i σ' H' => ∃ (kl : Addr) (y9 y10 : Option V) (vs : List V), σ' = [some (.ref hva), some (.ref a), some (.ref st), some (.ref ha), some (.ref oa), some (.ref ba), some (.ref la), some (.ref kl), some (.ref bl), y9, y10] ∧ Ex H H' ∧ kl ≠ bl ∧ H' kl = some (.lst ((s.hand ++ (List.range i).flatMap fun j => if j ∈ s.op then lyAt s j else []).map V.str)) ∧ H' bl = some (.lst vs) ∧ Paired (BoxAt K H') vs ((boxesL h s).take i))
      ⟨kl, none, none, [], rfl, E3, dkb, by rw [List.range_zero, List.flatMap_nil, List.append_nil]; exact e3 _ _ hkl, hbl, .nil⟩ (fun i σ' G _ hP => ?_) (fun i x σ' G1 G2 hi hP hy => ?_) (fun σ' G hP => ?_)
    · obtain ⟨_, _, _, _, _, eX, _⟩ := hP
      exact ex_t eX hS.l
    · obtain ⟨kl, y9, y10, vs, rfl, eX, dkb, hkl, hbl, hpv⟩ := hP
      obtain ⟨T, x1, x2, rfl, nT, rfl, hx1, hx2⟩ := hy
      cases hx1
      have eT := Ex.new (o := .tup [vN i, x2]) nT
      rw [hlv, ll] at hi
      obtain ⟨ip, hip, hips⟩ := cols_get hS.ls (i := i) (by omega)
      have hx3 : lvs[i]? = some x2 := hx2
      rw [hip] at hx3
      cases hx3
      refine ⟨T, _, rfl, st_of upd_same, rfl, vN i, [.ref ip], rfl, .ref ip, [], rfl, rfl, ?_⟩
      have EX := eX.trans eT
      have l6 := ok.ok.at6 i
      refine q_when (σ := [some (.ref hva), some (.ref a), some (.ref st), some (.ref ha), some (.ref oa), some (.ref ba), some (.ref la), some (.ref kl), some (.ref bl), some (vN i), some (.ref ip)]) (b := false) (et_is (et_test (ev_nePS (K := K) (ok.c.l _ (lyAt_mem (by omega))) (ok.c.l _ (lyAt_mem (by omega))) (ep_inside (K := K) (CD := CD) (XL := XL) (j := 9) rfl rfl (hK.ex EX) ll hi) (fun G g => ep_isV rfl (ex_t (EX.trans g) hips)))) (by simp)) (fun hb => by cases hb) (fun _ G3 g3 => ?_)
      have E4 := EX.trans g3
      have hkn : (s.hand ++ (List.range i).flatMap fun j => if j ∈ s.op then lyAt s j else []).length ≤ 300 := by
        have : ∀ l : List Nat, (l.flatMap fun i => if i ∈ s.op then lyAt s i else []).length ≤ 6 * l.length := fun l => by
          induction l with
          | nil => exact Nat.zero_le _
          | cons a r ih =>
            rw [List.flatMap_cons, List.length_append, List.length_cons]
            have : (if a ∈ s.op then lyAt s a else []).length ≤ 6 := by
              split
              · exact ok.ok.at6 a
              · exact Nat.zero_le _
            omega
        have := this (List.range i)
        rw [List.length_range] at this
        rw [List.length_append]
        omega
      refine q_asgL (σ := [some (.ref hva), some (.ref a), some (.ref st), some (.ref ha), some (.ref oa), some (.ref ba), some (.ref la), some (.ref kl), some (.ref bl), some (vN i), some (.ref ip)]) (el_cat (ev_var (v := .ref kl) rfl) ((eT.trans g3) _ _ hkl) (el_rep01 (el_listT (K := K) (ev_var (v := .ref ip) rfl) (ex_t E4 hips)) (b := decide (i ∈ s.op)) (ev_is (ev_op (ev_var (v := vN i) rfl) (ev_var (v := .ref oa) rfl) (rv_inT (K := K) (neg := false) (ex_t E4 hS.o) rfl (flat_nats _))) (congrArg V.bl (inV_nat i s.op))) (by rw [List.length_map]; show (lyAt s i).length ≤ 1000; omega)) (by
        rw [List.length_map]
        have : (if decide (i ∈ s.op) = true then (s.ly.getD i []).map V.str else []).length ≤ 6 := by
          split
          · rw [List.length_map]; exact l6
          · exact Nat.zero_le _
        omega)) fun kn G4 nkn g4 hkn' => ?_
      have E5 := E4.trans g4
      have dnb : kn ≠ bl := fun z => by rw [z, (eT.trans g3) _ _ hbl] at nkn; cases nkn
      have hB : EvP (tTup (tCons (tIf (tOr (tTest (tOp (rIn K false) (tVar 9) (tVar 4))) (tTest (tOp (rIn K false) (tVar 9) (tVar 5)))) (tTup tNil) (tOp (rIxT K) (tOp (rIxT K) (tOp (rIxT K) (tVar 0) (tC (.int 0))) (tVar 9)) (tC (.int 0)))) (tCons (tVar 10) tNil))) [some (.ref hva), some (.ref a), some (.ref st), some (.ref ha), some (.ref oa), some (.ref ba), some (.ref la), some (.ref kn), some (.ref bl), some (vN i), some (.ref ip)] G4 (fun v G => BoxAt K G v (if i ∈ s.op ∨ i ∈ s.br then [] else (bx h.1 i).1, lyAt s i)) := fun F1 f1 Q1 q1 => by
        have EF := E5.trans f1
        refine (et_or (et_is (et_test (ev_op (ev_var (v := vN i) rfl) (ev_var (v := .ref oa) rfl) (rv_inT (K := K) (neg := false) (ex_t EF hS.o) rfl (flat_nats _)))) (inV_nat i s.op)) fun _ => et_is (et_test (ev_op (ev_var (v := vN i) rfl) (ev_var (v := .ref ba) rfl) (rv_inT (K := K) (neg := false) (ex_t EF hS.b) rfl (flat_nats _)))) (inV_nat i s.br)) F1 (Ex.refl F1) _ fun F2 f2 => ?_
        have EF2 := EF.trans f2
        by_cases z : i ∈ s.op ∨ i ∈ s.br
        · rw [if_pos z] at q1
          have zb : (decide (i ∈ s.op) || decide (i ∈ s.br)) = true := by
            rcases z with z | z
            · rw [decide_eq_true z]; rfl
            · rw [decide_eq_true z, Bool.or_true]
          rw [if_pos zb]
          refine ⟨Nat.zero_le _, fun p np => ⟨.ref ip, rfl, by show 2 ≤ sizeLine; decide, fun r nr => ?_⟩⟩
          have x1 := Ex.new (o := .tup []) np
          have x2 := Ex.new (o := .tup [.ref p, .ref ip]) nr
          exact q1 _ _ ((f2.trans x1).trans x2) ⟨r, p, ip, rfl, st_of upd_same, st_of (x2 _ _ upd_same), ex_t ((EF2.trans x1).trans x2) hips⟩
        · rw [if_neg z] at q1
          have zb : (decide (i ∈ s.op) || decide (i ∈ s.br)) = false := by
            rw [decide_eq_false (fun y => z (.inl y)), decide_eq_false (fun y => z (.inr y))]
            rfl
          rw [zb, if_neg (by decide)]
          obtain ⟨bv, hbv, ⟨b1, bl', bk, rfl, y1, y2, y3⟩⟩ := paired_get2 hb2 (bx_get hi)
          refine ⟨.ref hva, rfl, hva, _, 0, .ref hba, rfl, rfl, ex_t EF2 hA1, at0, vN i, rfl, hba, bvs, (i : Int), .ref b1, rfl, rfl, ex_t EF2 hb1, atI_nat hbv, b1, _, 0, .ref bl', rfl, rfl, ex_t EF2 y1, at0, .ref ip, rfl, by show 2 ≤ sizeLine; decide, fun r nr => ?_⟩
          have x2 := Ex.new (o := .tup [.ref bl', .ref ip]) nr
          exact q1 _ _ (f2.trans x2) ⟨r, bl', ip, rfl, st_of upd_same, ex_t (EF2.trans x2) y2, ex_t (EF2.trans x2) hips⟩
      have hvl : vs.length ≤ 1000 := by
        rw [paired_len hpv, List.length_take]
        omega
      refine s_appP2 (K := K) hB (j := 8) (l := bl) rfl (((eT.trans g3).trans g4) _ _ hbl) hvl fun v G5 g5 hv => ?_
      have E6 := E5.trans g5
      have hbl5 := (((eT.trans g3).trans g4).trans g5) _ _ hbl
      refine ⟨kn, _, _, vs ++ [v], rfl, Ex.mut E6 nbH, dnb, ?_, upd_same, ?_⟩
      · rw [upd_ne dnb, g5 _ _ hkn', List.range_succ, List.flatMap_append, ← List.append_assoc, List.map_append (l₂ := List.flatMap _ [i])]
        congr 3
        rw [List.flatMap_cons, List.flatMap_nil, List.append_nil]
        by_cases z : i ∈ s.op
        · rw [if_pos (decide_eq_true z), if_pos z]
          rfl
        · rw [if_neg (by rw [decide_eq_false z]; decide), if_neg z]
          rfl
      · have kt : KeepT G5 (upd G5 bl (.lst (vs ++ [v]))) := KeepT.lst hbl5
        rw [List.take_add_one]
        have : (boxesL h s)[i]? = some (if i ∈ s.op ∨ i ∈ s.br then [] else (bx h.1 i).1, lyAt s i) := by
          unfold boxesL
          rw [List.getElem?_map, List.getElem?_range hi]
          rfl
        rw [this]
        exact paired_app (paired_imp hpv fun _ _ z => z.keep ((KeepT.ex (((eT.trans g3).trans g4).trans g5)).trans kt)) (hv.keep kt)
    · obtain ⟨kl, y9, y10, vs, rfl, eX, dkb, hkl, hbl, hpv⟩ := hP
      rw [hlv, ll] at hkl hpv
      have et : (boxesL h s).take h.1.length = boxesL h s := List.take_of_length_le (by rw [len_L]; exact Nat.le_refl _)
      rw [et] at hpv
      have hvn : vs.length = h.1.length := (paired_len hpv).trans (len_L h s)
      have hR : EvR K (tCall (spLRg K) [] E0 (tCons (tVar 8) (tCons (tVar 7) tNil))) [some (.ref hva), some (.ref a), some (.ref st), some (.ref ha), some (.ref oa), some (.ref ba), some (.ref la), some (.ref kl), some (.ref bl), y9, y10] G (roundsOf (boxesL h s) (keysL h s) (List.range h.1.length)) := er_call (vs := [.ref bl, .ref kl]) (ea_cons (ev_var rfl) (ea_cons (ev_var rfl) ea_nil)) fun G1 g1 Q1 q1 E => ⟨bl, kl, boxesL h s, keysL h s, rfl, ⟨vs, .inl (sq_of (g1 _ _ hbl)), paired_imp hpv fun _ _ z => z.keep (KeepT.ex g1)⟩, few_L ok.ok, .inl (sq_of (g1 _ _ hkl)), keysL_len ok.ok, by rw [len_L]; exact q1⟩
      have hrl : (roundsOf (boxesL h s) (keysL h s) (List.range h.1.length)).length ≤ 1000 := by
        unfold roundsOf
        have := roundsF_len (boxesL h s) ((List.range h.1.length).length + 1) (keysL h s) (List.range h.1.length)
        rw [List.length_range] at this
        rw [List.length_range]
        omega
      have hsum := ev_sumR (K := K) (j := 10) hR hrl fun v => ⟨rfl, rfl⟩
      have hln := ev_len (K := K) (σ := [some (.ref hva), some (.ref a), some (.ref st), some (.ref ha), some (.ref oa), some (.ref ba), some (.ref la), some (.ref kl), some (.ref bl), y9, y10]) (H := G) (ev_var (v := .ref bl) (i := 8) rfl) (sq_of hbl)
      rw [hvn] at hln
      refine s_ret (v := .bl true) (ev_is (ev_op (ev_reprB (ev_can (K := K) (CD := CD) (XL := XL) rfl (hK.ex eX) ok.ok)) (ev_reprB (ev_op hsum hln (rv_eq rfl))) (rv_eq rfl)) ?_) (fun G1 g1 => q G1 (eX.trans g1))
      have : decide (vN (roundsOf (boxesL h s) (keysL h s) (List.range h.1.length)).flatten.length = V.int (h.1.length : Int)) = canB h s := by
        rw [can_rounds ok.ok]
        exact dec_nat
      rw [this]
      exact congrArg V.bl (decide_eq_true rfl)
end
end Kw
set_option Elab.async false
set_option linter.all false
set_option maxRecDepth 100000
set_option maxHeartbeats 4000000
namespace Kw
open PySem
/-! ### the states of a kept house stay in order -/
theorem names_pw : names12.Pairwise ltS := by
  unfold ltS
  decide +kernel
theorem uni_names {xs zs : List Str} (h1 : ∀ c ∈ xs, c ∈ names12) (h2 : ∀ c ∈ zs, c ∈ names12) : Uni xs zs (uniL xs zs) := by
  have u : Uni xs zs (names12.filter fun c => decide (c ∈ xs ++ zs)) := by
    have hp : (names12.filter fun c => decide (c ∈ xs ++ zs)).Pairwise ltS := names_pw.filter _
    have hr := pwS_rising hp
    refine ⟨ris_nodup hr, hr, fun z => ?_⟩
    rw [List.mem_filter, decide_eq_true_eq]
    refine ⟨fun x => x.2, fun x => ⟨?_, x⟩⟩
    rcases List.mem_append.mp x with y | y
    · exact h1 z y
    · exact h2 z y
  have e := u.eq
  rw [e] at u
  exact u
theorem uniN_nats {n : Nat} {xs zs : List Nat} (h1 : ∀ i ∈ xs, i < n) (h2 : ∀ i ∈ zs, i < n) : UniN xs zs (uniN xs zs) := by
  have u : UniN xs zs ((List.range n).filter fun i => decide (i ∈ xs ++ zs)) := by
    refine ⟨(List.pairwise_lt_range (n := n)).filter _, fun z => ?_⟩
    rw [List.mem_filter, decide_eq_true_eq, List.mem_range]
    refine ⟨fun x => x.2, fun x => ⟨?_, x⟩⟩
    rcases List.mem_append.mp x with y | y
    · exact h1 z y
    · exact h2 z y
  have e := u.eq
  rw [e] at u
  exact u
theorem pw_len : ∀ {l : List Nat} {a n : Nat}, l.Pairwise (· < ·) → (∀ i ∈ l, a ≤ i ∧ i < n) → l.length ≤ n - a
  | [], _, _, _, _ => Nat.zero_le _
  | x :: r, a, n, hp, hb => by
    obtain ⟨h1, h2⟩ := List.pairwise_cons.mp hp
    have hx := hb x (List.mem_cons_self ..)
    have := pw_len (a := x + 1) (n := n) h2 fun i hi => ⟨h1 i hi, (hb i (List.mem_cons_of_mem _ hi)).2⟩
    rw [List.length_cons]
    omega
theorem SOk.make {h : House} {s : KSt} (oh : OkHouse h) (hr : Rising s.hand) (nm : ∀ c ∈ s.hand, c ∈ names12) (ou : s.op.Pairwise (· < ·)) (ob : ∀ i ∈ s.op, i < h.1.length) (bu : s.br.Pairwise (· < ·)) (bb : ∀ i ∈ s.br, i < h.1.length) (ll : s.ly.length = h.1.length) (l6 : ∀ ks ∈ s.ly, ks.length ≤ 6) (lr : ∀ ks ∈ s.ly, Rising ks) (ln : ∀ ks ∈ s.ly, ∀ c ∈ ks, c ∈ names12) : SOk h s := by
  have h12 : s.hand.length ≤ 12 := nodup_len (l := names12) (ris_nodup hr) nm
  have h30 := oh.2.1
  have o30 := pw_len (a := 0) (n := h.1.length) ou fun i hi => ⟨Nat.zero_le _, ob i hi⟩
  have b30 := pw_len (a := 0) (n := h.1.length) bu fun i hi => ⟨Nat.zero_le _, bb i hi⟩
  exact ⟨⟨by omega, by omega, by omega, ll, l6, ob, oh⟩, ⟨fun c hc => names_col c (nm c hc), fun ks hk c hc => names_col c (ln ks hk c hc)⟩, hr, ou, bu, bb, lr, nm, ln⟩
theorem SOk.st0 {h : House} (oh : OkHouse h) (fn : FromNames h) : SOk h (st0 h) := by
  refine SOk.make oh oh.2.2.2.2.2 fn.2 List.Pairwise.nil (fun i hi => (by cases hi)) List.Pairwise.nil (fun i hi => (by cases hi)) (List.length_map ..) (fun ks hk => ?_) (fun ks hk => ?_) (fun ks hk => ?_)
  · obtain ⟨b, hb, rfl⟩ := List.mem_map.mp hk
    exact (oh.2.2.1 b hb).2.1
  · obtain ⟨b, hb, rfl⟩ := List.mem_map.mp hk
    exact (oh.2.2.1 b hb).2.2.2
  · obtain ⟨b, hb, rfl⟩ := List.mem_map.mp hk
    exact (fn.1 b hb).2
section
variable {h : House} {s : KSt}
theorem SOk.lift {i : Nat} {br : List Nat} (ok : SOk h s) (hi : i < h.1.length) (bu : br.Pairwise (· < ·)) (bb : ∀ i ∈ br, i < h.1.length) : SOk h (liftS s i br) := by
  have ly := lyAt_mem (s := s) (i := i) (by rw [ok.ok.ll]; exact hi)
  have u := uni_names ok.nm (ok.ln _ ly)
  have v := uniN_nats (n := h.1.length) (xs := s.op) (zs := [i]) ok.ok.ob fun j hj => by
    have : j = i := by simpa using hj
    omega
  refine SOk.make ok.ok.oh u.2.1 (fun c hc => ?_) v.1 (fun j hj => ?_) bu bb ((List.length_set ..).trans ok.ok.ll) (fun ks hk => ?_) (fun ks hk => ?_) (fun ks hk => ?_)
  · rcases List.mem_append.mp ((u.2.2 c).mp hc) with z | z
    · exact ok.nm c z
    · exact ok.ln _ ly c z
  · rcases List.mem_append.mp ((v.2 j).mp hj) with z | z
    · exact ok.ok.ob j z
    · have : j = i := by simpa using z
      omega
  · rcases List.mem_or_eq_of_mem_set hk with z | rfl
    · exact ok.ok.l6 ks z
    · exact Nat.zero_le _
  · rcases List.mem_or_eq_of_mem_set hk with z | rfl
    · exact ok.lr ks z
    · exact fun i x y hx hy => by cases hx
  · rcases List.mem_or_eq_of_mem_set hk with z | rfl
    · exact ok.ln ks z
    · exact fun c hc => by cases hc
theorem SOk.shut {i : Nat} (ok : SOk h s) : SOk h (shutS s i) :=
  SOk.make ok.ok.oh ok.hr ok.nm (ok.ou.filter _) (fun j hj => ok.ok.ob j (List.mem_filter.mp hj).1) ok.bu ok.bb ok.ok.ll ok.ok.l6 ok.lr ok.ln
theorem SOk.lay {i : Nat} {c : Str} (ok : SOk h s) (hi : i < h.1.length) (hc : c ∈ s.hand) (h6 : (uniL (lyAt s i) [c]).length ≤ 6) : SOk h (layS s c i) := by
  have ly := lyAt_mem (s := s) (i := i) (by rw [ok.ok.ll]; exact hi)
  have u := uni_names (xs := lyAt s i) (zs := [c]) (ok.ln _ ly) fun j hj => by
    have : j = c := by simpa using hj
    rw [this]
    exact ok.nm c hc
  refine SOk.make ok.ok.oh (pwS_rising ((rising_pwS ok.hr).filter _)) (fun c hc => ok.nm c (List.mem_filter.mp hc).1) ok.ou ok.ok.ob ok.bu ok.bb ((List.length_set ..).trans ok.ok.ll) (fun ks hk => ?_) (fun ks hk => ?_) (fun ks hk => ?_)
  · rcases List.mem_or_eq_of_mem_set hk with z | rfl
    · exact ok.ok.l6 ks z
    · exact h6
  · rcases List.mem_or_eq_of_mem_set hk with z | rfl
    · exact ok.lr ks z
    · exact u.2.1
  · rcases List.mem_or_eq_of_mem_set hk with z | rfl
    · exact ok.ln ks z
    · intro x hx
      rcases List.mem_append.mp ((u.2.2 x).mp hx) with z | z
      · exact ok.ln _ ly x z
      · have : x = c := by simpa using z
        rw [this]
        exact ok.nm c hc
theorem SOk.opened {i : Nat} {b : Bool} {s' : KSt} (ok : SOk h s) (hi : i < h.1.length) (hd : dueO h s i b = .inr s') : SOk h s' := by
  unfold dueO at hd
  split at hd
  · cases hd
  · split at hd
    · cases hd
    · cases hd
      cases b with
      | false => exact ok.lift hi ok.bu ok.bb
      | true =>
        have v := uniN_nats (n := h.1.length) (xs := s.br) (zs := [i]) ok.bb fun j hj => by
          have : j = i := by simpa using hj
          omega
        exact ok.lift hi v.1 fun j hj => by
          rcases List.mem_append.mp ((v.2 j).mp hj) with z | z
          · exact ok.bb j z
          · have : j = i := by simpa using z
            omega
theorem SOk.after {wd : Str} {cv : L2.V} {d : PyData} {s' : KSt} (ok : SOk h s) (hd : dueA h s wd cv d = .inr s') : SOk h s' := by
  unfold dueA at hd
  split at hd
  · unfold dueL at hd
    split at hd
    · split at hd
      · next c hc =>
        cases hx : boxN h.1.length d with
        | none => rw [hx] at hd; cases hd
        | some i =>
          rw [hx] at hd
          dsimp only at hd
          have hi := (boxN_some hx).1
          split at hd
          · split at hd
            · cases hd
            · next h6 =>
              cases hd
              exact ok.lay hi hc (by omega)
          · cases hd
      · cases hd
    · cases hd
  · cases hx : boxN h.1.length d with
    | none => rw [hx] at hd; cases hd
    | some i =>
      rw [hx] at hd
      dsimp only at hd
      have hi := (boxN_some hx).1
      split at hd
      · exact ok.opened hi hd
      · split at hd
        · split at hd
          · cases hd
            exact ok.shut
          · cases hd
            exact ok.lift hi ok.bu ok.bb
        · cases hd
end
end Kw
set_option Elab.async false
set_option linter.all false
set_option maxRecDepth 100000
set_option maxHeartbeats 4000000
namespace Kw
open PySem PySem.Spec PyProof.Rows L2 Evl KwX NdefX LamX
theorem at_m1 {α : Type} (ys : List α) (v : α) : atI (ys ++ [v]) (-1) = some v := by
  unfold atI ixN
  rw [if_neg (by decide), List.length_append, List.length_singleton, if_pos (by omega)]
  show (ys ++ [v])[((((ys.length + 1 : Nat) : Int) + -1)).toNat]? = _
  rw [show ((((ys.length + 1 : Nat) : Int) + -1)).toNat = ys.length by omega]
  simp
theorem at_m2 {α : Type} (ys : List α) (u v : α) : atI (ys ++ [u] ++ [v]) (-2) = some u := by
  unfold atI ixN
  rw [if_neg (by decide), List.length_append, List.length_append, List.length_singleton, List.length_singleton, if_pos (by omega)]
  show (ys ++ [u] ++ [v])[((((ys.length + 1 + 1 : Nat) : Int) + -2)).toNat]? = _
  rw [show ((((ys.length + 1 + 1 : Nat) : Int) + -2)).toNat = ys.length by omega]
  simp
theorem cut_m1 (ys : List V) (v : V) : cutV (ys ++ [v]) none (some (-1)) = ys := by
  unfold cutV HT.sIx
  rw [List.length_append, List.length_singleton]
  show List.take ((if (-1 : Int) < 0 then ((-1 : Int) + ((ys.length + 1 : Nat) : Int)).toNat else _) - 0) (List.drop 0 (ys ++ [v])) = ys
  rw [if_pos (by decide), show ((-1 : Int) + ((ys.length + 1 : Nat) : Int)).toNat = ys.length by omega, Nat.sub_zero, List.drop_zero]
  simp
theorem paired_snoc {α β : Type} {F : α → β → Prop} : ∀ {xs : List α} {ys : List β} {y : β}, Paired F xs (ys ++ [y]) → ∃ xs' x, xs = xs' ++ [x] ∧ Paired F xs' ys ∧ F x y
  | _, [], _, .cons r .nil => ⟨[], _, rfl, .nil, r⟩
  | _, a :: t, _, .cons r q => by
    obtain ⟨xs', x, e, h1, h2⟩ := paired_snoc q
    subst e
    exact ⟨_ :: xs', x, rfl, .cons r h1, h2⟩
section
variable {K : PySem.W.Frag} {σ : L2.St} {H : Hp} {ta tb te : TE} {D : Ends} {tz : TS}
/-- [v, ..][_law_take(bag, n)] -/
theorem menuV {ta : TA} {cs : List V} {i : Nat} {a : Addr} {n : Int} {Q : VK} (ha : EvA ta σ H cs) (hn : n = (cs.length : Int)) (hl : 1 ≤ cs.length ∧ cs.length ≤ 1000) (h0 : σ[i]? = some (some (.ref a))) (hB : Bag H a)
    (q : ∀ c H', c ∈ cs → ExB a H H' → Bag H' a → Q c H') : tOp (rIxL K) (tLst ta) (tCall (spTake K) [] E0 (tCons (tVar i) (tCons (tC (.int n)) tNil))) σ H Q := by
  refine el_lst ha (by omega) H (Ex.refl H) _ fun l H1 nl e1 hl1 => ?_
  refine ⟨.ref a, h0, a, n, rfl, hB.ex e1, by omega, fun r H2 r0 r1 x2 b2 => ?_⟩
  obtain ⟨j, hj⟩ := Int.eq_ofNat_of_zero_le r0
  have hj' : j < cs.length := by omega
  have nla : l ≠ a := fun z => by
    obtain ⟨da, na, xa, hBa, _⟩ := hB
    rw [z, hBa] at nl
    cases nl
  exact ⟨l, cs, r, cs[j], rfl, rfl, sq_of (x2 _ _ nla hl1), by rw [hj]; exact atI_nat (List.getElem?_eq_getElem hj'), q _ H2 (List.getElem_mem hj') ((ExB.of e1).trans x2) b2⟩
/-- one of a list that lies at l, drawn -/
theorem drawV {l a : Addr} {cs : List V} {n : Int} {i : Nat} {tn : TE} {Q : VK} (hl : H l = some (.lst cs)) (nla : l ≠ a) (hn : n = (cs.length : Int)) (h1 : 1 ≤ cs.length) (h0 : σ[i]? = some (some (.ref a))) (hB : Bag H a) (ht : Ev tn σ H (.int n)) (q : ∀ c H', c ∈ cs → ExB a H H' → Bag H' a → Q c H') : tCall (spTake K) [] E0 (tCons (tVar i) (tCons tn tNil)) σ H (fun y H1 => rIxL K (.ref l) y H1 Q) := by
  refine ⟨.ref a, h0, ht H (Ex.refl H) _ fun H1 e1 => ⟨a, n, rfl, hB.ex e1, by omega, fun r H2 r0 r1 x2 b2 => ?_⟩⟩
  obtain ⟨j, hj⟩ := Int.eq_ofNat_of_zero_le r0
  have hj' : j < cs.length := by omega
  exact ⟨l, cs, r, cs[j], rfl, rfl, sq_of (x2 _ _ nla (e1 _ _ hl)), by rw [hj]; exact atI_nat (List.getElem?_eq_getElem hj'), q _ H2 (List.getElem_mem hj') ((ExB.of e1).trans x2) b2⟩
end
/-- between two deeds -/
structure DInv (K : PySem.W.Frag) (CK : Addr) (T : List (Addr × Str)) (H1 G : Hp) (b a pl a2 pl2 sl : Addr) (hv : V) (h : House) (s : KSt) (ps : List KSt) (ss : List V) : Prop where
  x : XB b H1 G
  bg : Bag G b
  tb : Tabs T G
  hA : HouseAt K G hv h
  k1 : KpAt K CK G a pl h s ps
  k2 : KpAt K CK G a2 pl2 h s ps
  hs : G sl = some (.lst ss)
  st : Paired (StAt K G) ss (ps ++ [s])
  ok : ∀ t ∈ ps ++ [s], SOk h t
  n1 : sl ≠ b
  n2 : sl ≠ pl
  n3 : sl ≠ pl2
  hd : (ps ++ [s]).head? = some (st0 h)
section
variable {K : PySem.W.Frag} {CK : Addr} {T : List (Addr × Str)} {H1 G G' : Hp} {b a pl a2 pl2 sl : Addr} {hv : V} {h : House} {s : KSt} {ps : List KSt} {ss : List V}
theorem DInv.ex (I : DInv K CK T H1 G b a pl a2 pl2 sl hv h s ps ss) (e : Ex G G') : DInv K CK T H1 G' b a pl a2 pl2 sl hv h s ps ss :=
  ⟨I.x.trans (XB.ex e), I.bg.ex e, I.tb.ext e, I.hA.keep (KeepT.ex e), I.k1.ex e, I.k2.ex e, e _ _ I.hs, paired_imp I.st fun _ _ z => z.keep (KeepT.ex e), I.ok, I.n1, I.n2, I.n3, I.hd⟩
theorem DInv.n (I : DInv K CK T H1 G b a pl a2 pl2 sl hv h s ps ss) (e : ExtN G G') (t : Tabs T G') : DInv K CK T H1 G' b a pl a2 pl2 sl hv h s ps ss :=
  ⟨I.x.trans (XB.n e), I.bg.n e, t, I.hA.keep (keepN e), I.k1.n e, I.k2.n e, e _ _ I.hs (fun ps z => by cases z), paired_imp I.st fun _ _ z => z.keep (keepN e), I.ok, I.n1, I.n2, I.n3, I.hd⟩
theorem DInv.bag (I : DInv K CK T H1 G b a pl a2 pl2 sl hv h s ps ss) (e : ExB b G G') (g : Bag G' b) : DInv K CK T H1 G' b a pl a2 pl2 sl hv h s ps ss :=
  ⟨I.x.trans (XB.b e), g, Tabs.bag I.bg e I.tb, I.hA.keep (I.bg.keepT e), I.k1.bag I.bg e, I.k2.bag I.bg e, e _ _ I.n1 I.hs, paired_imp I.st fun _ _ z => z.keep (I.bg.keepT e), I.ok, I.n1, I.n2, I.n3, I.hd⟩
end
section
variable {K : PySem.W.Frag} {T : List (Addr × Str)} {σ : L2.St} {H : Hp} {ta : TA} {mk : Addr → NF} {b : Expr} {spL : Sp} {d : Nat → Addr} {rs : Nat → Bool} {rT rL : Bool} {dT dL : Addr} {CK XL : Addr} {CD : Nat → Addr}
/-- _law_refused(lambda .., ..), whatever comes -/
theorem ref_do (Φ : Hp → Out → Hp → Prop) {v1 v2 v3 : V} {Q : VK} (hT : Tabs T H) (ha : ∀ H1, ExtN H H1 → EvA ta σ H1 [v1, v2, v3])
    (hL : ∀ H1, ExtN H H1 → Tabs T H1 → Ends4 d spL [v1, v2, v3] rs rT rL dT dL H1 (Φ H1)) (kf : ∀ H1 H2 kp, ExtN H H1 → Tabs T H1 → (∀ c o, H c = some o → c ≠ kp) → H1 kp = some (.lst []) → Φ H1 .fine H2 → Q (.ref kp) H2) (kr : ∀ H1 o H2 p H3, ExtN H H1 → Tabs T H1 → o ≠ .fine → Φ H1 o H2 → Ex H2 H3 → H3 p = some (.lst (resO o)) → Q (.ref p) H3) (hmk : ∀ c', (mk c').c = c' := by intro _; rfl) :
    tCall (spRefG d mk b spL rs rT rL dT dL) [] E0 (tCons (tLamV T mk b) ta) σ H Q := by
  refine ⟨hT, fun f c' H1 eN nn T1 nf hf hc => ha H1 eN H1 (Ex.refl H1) _ fun H2 e2 => ⟨f, c', v1, v2, v3, Φ, rfl, e2 _ _ hf, by rw [hmk]; exact e2 _ _ hc, fun H3 e => hL H3 (fun b o hb n => (e2.trans e) _ _ (eN b o hb n)) (T1.ext (e2.trans e)), fun G1 G2 kp e3 nk hk hO => ?_, fun G1 o' G2 p G3 e3 no hO np e4 hp => ?_⟩⟩
  · have eA := e2.trans e3
    refine kf G1 G2 kp (fun b o hb n => eA _ _ (eN b o hb n)) (T1.ext eA) (fun c o hc z => ?_) hk hO
    subst z
    have h2 : H1 c = none := by
      cases e : H1 c with
      | none => rfl
      | some y => rw [e2 _ _ e] at nk; cases nk
    have h3 := nn c h2
    rw [hc] at h3
    cases h3
  · have eA := e2.trans e3
    exact kr G1 o' G2 p G3 (fun b o hb n => eA _ _ (eN b o hb n)) (T1.ext eA) no hO e4 hp
variable {a pl a2 pl2 : Addr} {h h' : House} {s s' : KSt} {ps qs : List KSt} {i j : Nat}
theorem ev_eqK {mg : Str → Option Value} (CL : KCls K mg CK) (h0 : σ[i]? = some (some (.ref a))) (h1 : σ[j]? = some (some (.ref a2))) (k1 : KpAt K CK H a pl h s ps) (k2 : KpAt K CK H a2 pl2 h' s' qs) (oh : OkHouse h) (oc : OkC s) (oh' : OkHouse h') (oc' : OkC s') : Ev (tOp (KwX.rEqI K CK (spKpE K CK CD XL) E0) (tVar i) (tVar j)) σ H (.bl (decide (h = h') && decide (s = s'))) := fun H1 e Q q => by
  have k1' := k1.ex e
  have k2' := k2.ex e
  have k3 := k1'
  have k4 := k2'
  obtain ⟨dx, hv, sv, pvs, g1, _⟩ := k3
  obtain ⟨dy, hw, sw, pws, g2, _⟩ := k4
  exact ⟨.ref a, h0, .ref a2, h1, a, dx, _, .ref CK, rfl, g1, .base (.ins g2 CL.c CL.ca CL.cn CL.ct CL.cm), CL.nk, a, pl, h, s, ps, .ref a2, rfl, k1', oh, oc, .inl ⟨a2, pl2, h', s', qs, rfl, k2', oh', oc', fun H2 e2 => q H2 e2⟩⟩
theorem ev_eqH {mg : Str → Option Value} {t : Addr} {xs : List V} (CL : KCls K mg CK) (h0 : σ[i]? = some (some (.ref a))) (h1 : σ[j]? = some (some (.ref t))) (k1 : KpAt K CK H a pl h s ps) (ht : SqT K H t xs) (oh : OkHouse h) (oc : OkC s) : Ev (tOp (KwX.rEqI K CK (spKpE K CK CD XL) E0) (tVar i) (tVar j)) σ H (.bl false) := fun H1 e Q q => by
  have k1' := k1.ex e
  have k3 := k1'
  obtain ⟨dx, hv, sv, pvs, g1, _⟩ := k3
  exact ⟨.ref a, h0, .ref t, h1, a, dx, _, .type "tuple", rfl, g1, ty_tup (ex_t e ht), CL.nt, a, pl, h, s, ps, .ref t, rfl, k1', oh, oc, .inr ⟨t, xs, rfl, ex_t e ht, fun H2 e2 => q H2 e2⟩⟩
end
section
variable {K : PySem.W.Frag} {σ : L2.St} {H : Hp} {te tb : TE} {D : Ends} {tz : TS}
theorem q_asgV {i : Nat} (h : te σ H fun v H1 => tz D (σ.set i (some v)) H1) : tSeq (tAsg te (gName i)) tz D σ H := h
theorem q_parT {i j : Nat} (h : te σ H fun x H1 => tb σ H1 fun y H2 => ∃ v w, [x, y] = [v, w] ∧ tz D ((σ.set i (some v)).set j (some w)) H2) : tSeq (tPar i j (tCons te (tCons tb tNil))) tz D σ H := h
theorem lst1_src {Q : VK} (h : te σ H fun x H1 => 1 ≤ sizeLine ∧ ∀ p, H1 p = none → Q (.ref p) (upd H1 p (.lst [x]))) : tLst (tCons te tNil) σ H Q := h
/-- (house[1], (), (), tuple([inside for locks, inside in house[0]])) -/
theorem ep_st0 {sa b hva : Addr} {h : House} {y3 y4 y5 y6 y7 y8 y9 y10 y11 y12 y13 y14 : Option V} (hA : HouseAt K H (.ref hva) h) (h30 : h.1.length ≤ 30) : EvP (tTup (tCons (tOp (rIxT K) (tVar 2) (tC (.int 1))) (tCons (tTup tNil) (tCons (tTup tNil) (tCons (tCB (rTupOf K) (tCons (tLc (iTup K (tOp (rIxT K) (tVar 2) (tC (.int 0)))) (gTup K 2 (gCons (gName 13) (gCons (gName 14) gNil))) tYes (tVar 14) [13, 14]) tNil)) tNil)))))
    [some (.ref sa), some (.ref b), some (.ref hva), y3, y4, y5, y6, y7, y8, y9, y10, y11, y12, y13, y14] H (fun v G => StAt K G v (st0 h)) := fun H2 e2 Q q => by
  obtain ⟨av, ab, ak, e, h1, hab, hak⟩ := hA
  cases e
  refine ⟨.ref hva, rfl, hva, _, 1, .ref ak, rfl, rfl, ex_t e2 h1, at1, Nat.zero_le _, fun c1 nc1 => ⟨Nat.zero_le _, fun c2 nc2 => ?_⟩⟩
  have k1 := Ex.new (o := .tup []) nc1
  have k2 := Ex.new (o := .tup []) nc2
  have k12 := (e2.trans k1).trans k2
  obtain ⟨bvs, hbvs, hbp⟩ := hab
  have hbl : bvs.length = h.1.length := paired_len hbp
  have hC : EvC (tLc (iTup K (tOp (rIxT K) (tVar 2) (tC (.int 0)))) (gTup K 2 (gCons (gName 13) (gCons (gName 14) gNil))) tYes (tVar 14) [13, 14]) [some (.ref sa), some (.ref b), some (.ref hva), y3, y4, y5, y6, y7, y8, y9, y10, y11, y12, y13, y14] (upd (upd H2 c1 (.tup [])) c2 (.tup [])) bvs.length (fun _ => true) (fun i y G => ∃ p, y = .ref p ∧ SqT K G p ((bx h.1 i).2.map V.str)) := by
    refine lc_gen (ew_tup (K := K) (ev_op (ev_var (v := .ref hva) rfl) ev_c (rv_ixT (K := K) (ex_t k12 h1) at0)) (ex_t k12 hbvs)) (by omega) (fun _ => true) _ (fun i y G G' e ⟨p, z1, z2⟩ => ⟨p, z1, keep_t e z2⟩) (fun i x G1 G2 Q' e hi hy k => ?_)
    obtain ⟨rfl, hx⟩ := hy
    obtain ⟨bb, hbb, ⟨p, l, kk, rfl, z1, z2, z3⟩⟩ := paired_get hbp hx
    have : bb = bx h.1 i := by
      have := bx_get (bs := h.1) (i := i) (by omega)
      rw [hbb] at this
      exact Option.some.inj this
    subst this
    have F := k12.trans e
    refine ⟨p, _, rfl, ex_t F z1, rfl, .ref l, [.ref kk], rfl, .ref kk, [], rfl, rfl, k _ _ (Ex.refl _) rfl et_yes fun _ => ep_var rfl fun G3 e3 => ⟨kk, rfl, ex_t (F.trans e3) z3⟩⟩
  refine c1_src (hC _ (Ex.refl _) _ fun lp ys H3 nlp e3 hlp hys => ?_)
  refine ⟨lp, ys, rfl, .inl ⟨sq_of hlp, fun tp ntp => ⟨by show 4 ≤ sizeLine; decide, fun st nst => ?_⟩⟩⟩
  have k4 := Ex.new (o := .tup ys) ntp
  have k5 := Ex.new (o := .tup [.ref ak, .ref c1, .ref c2, .ref tp]) nst
  have E5 := ((k12.trans e3).trans k4).trans k5
  refine q _ _ ((((k1.trans k2).trans e3).trans k4).trans k5) ⟨st, ak, c1, c2, tp, ys, rfl, st_of upd_same, ex_t E5 hak, st_of ((((k2.trans e3).trans k4).trans k5) _ _ upd_same), st_of (((e3.trans k4).trans k5) _ _ upd_same), st_of (k5 _ _ upd_same), ?_⟩
  rw [filter_true, hbl] at hys
  have := paired_flip (F := fun v ks => ∃ p, v = V.ref p ∧ SqT K H3 p (ks.map V.str)) (g := fun i => (bx h.1 i).2) hys
  have e : (List.range h.1.length).map (fun i => (bx h.1 i).2) = h.1.map (·.2) := range_map_get h.1 ([], []) (·.2)
  rw [e] at this
  exact (show ColsAt K H3 ys (h.1.map (·.2)) from this).keep (KeepT.ex (k4.trans k5))
end
end Kw
set_option Elab.async false
set_option linter.all false
set_option maxRecDepth 100000
set_option maxHeartbeats 4000000
namespace Kw
open PySem PySem.Spec PyProof.Rows L2 Evl KwX NdefX LamX
section
variable {K : PySem.W.Frag} {σ : L2.St} {H : Hp} {ta tb te : TE} {D : Ends} {tz : TS}
theorem ev_neg1 {n : Int} : Ev (tUn (rU fun i => .int (-i)) (tC (.int n))) σ H (.int (-n)) := fun H1 e Q q => ⟨n, rfl, q H1 (Ex.refl H1)⟩
theorem num_draw {b hva hba hka : Addr} {bvs : List V} {Q : VK} (h1 : σ[1]? = some (some (.ref b))) (h2 : σ[2]? = some (some (.ref hva))) (hB : Bag H b) (hv1 : SqT K H hva [.ref hba, .ref hka]) (hbs : SqT K H hba bvs) (hl : 1 ≤ bvs.length ∧ bvs.length ≤ 30) (q : ∀ v d G, ExB b H G → Bag G b → Dp K G v d → Fz d = true → Q v G) :
    tOp (rIxL K) (tOp rCat (tOp rRep (tLst (tCons (tCall (spTake K) [] E0 (tCons (tVar 1) (tCons (tCB (rLenS K) (tCons (tOp (rIxT K) (tVar 2) (tC (.int 0))) tNil)) tNil))) tNil)) (tC (.int 9))) (tLst (tCons (tUn (rU fun i => .int (-i)) (tC (.int 1))) (tCons (tCB (rLenS K) (tCons (tOp (rIxT K) (tVar 2) (tC (.int 0))) tNil)) (tCons (tC .non) (tCons (tC (.bl true)) tNil)))))) (tCall (spTake K) [] E0 (tCons (tVar 1) (tCons (tC (.int 13)) tNil))) σ H Q := by
  have tl : ∀ {G : Hp}, KeepT H G → Ev (tCB (rLenS K) (tCons (tOp (rIxT K) (tVar 2) (tC (.int 0))) tNil)) σ G (.int (bvs.length : Int)) := fun {G} e => ev_lenT (K := K) (ev_op (ev_var (v := .ref hva) h2) ev_c (rv_ixT (K := K) (keep_t e hv1) at0)) (keep_t e hbs)
  refine ⟨.ref b, h1, tl (KeepT.ex (Ex.refl H)) H (Ex.refl H) _ fun H1 e1 => ⟨b, bvs.length, rfl, hB.ex e1, by omega, fun r H2 r0 r1 x2 b2 => ⟨by show 1 ≤ sizeLine; decide, fun p np => ?_⟩⟩⟩
  have f3 := Ex.new (o := .lst [.int r]) np
  refine ⟨p, 9, [.int r], rfl, rfl, upd_same, by decide, by decide, by show 1 * 9 ≤ sizeLine; decide, fun p2 np2 => ?_⟩
  have f4 := Ex.new (o := .lst (List.replicate (9 : Int).toNat [V.int r]).flatten) np2
  have x4 : ExB b H (upd (upd H2 p (.lst [.int r])) p2 (.lst (List.replicate (9 : Int).toNat [V.int r]).flatten)) := ((ExB.of e1).trans x2).trans (ExB.of (f3.trans f4))
  have b4 := b2.ex (f3.trans f4)
  have hp2 : (upd (upd H2 p (.lst [.int r])) p2 (.lst (List.replicate (9 : Int).toNat [V.int r]).flatten)) p2 = some (.lst (List.replicate (9 : Int).toNat [V.int r]).flatten) := upd_same
  generalize upd (upd H2 p (.lst [.int r])) p2 (.lst (List.replicate (9 : Int).toNat [V.int r]).flatten) = G at x4 b4 hp2 f4
  refine (el_lst (ea_cons ev_neg1 (ea_cons (tl (hB.keepT x4)) (ea_cons ev_c (ea_cons ev_c ea_nil)))) (by show 4 ≤ 100000; decide)) G (Ex.refl G) _ fun p3 H5 np3 e5 hp3 => ?_
  refine ⟨p2, p3, _, _, rfl, rfl, e5 _ _ hp2, hp3, by show 13 ≤ sizeLine; decide, fun t nt => ?_⟩
  have f6 := Ex.new (o := .lst ((List.replicate (9 : Int).toNat [V.int r]).flatten ++ [.int (-1), .int bvs.length, .non, .bl true])) nt
  have bt := (b4.ex e5).ex f6
  have nt' : t ≠ b := fun z => by
    obtain ⟨_, _, _, c1, _⟩ := b4.ex e5
    rw [z, c1] at nt
    cases nt
  refine drawV (K := K) (a := b) (i := 1) (n := 13) upd_same nt' rfl (by show 1 ≤ 13; decide) h1 bt ev_c fun c G' hc x7 b7 => ?_
  have hd : ∃ d, Dp K G' c d ∧ Fz d = true := by
    rcases List.mem_append.mp hc with z | z
    · have : c = .int r := by simpa using z
      exact ⟨_, by rw [this]; exact .int _, rfl⟩
    · simp only [List.mem_cons, List.not_mem_nil, or_false] at z
      rcases z with rfl | rfl | rfl | rfl
      · exact ⟨_, .int _, rfl⟩
      · exact ⟨_, .int _, rfl⟩
      · exact ⟨_, .non, rfl⟩
      · exact ⟨_, .bl _, rfl⟩
  obtain ⟨d, hd, hz⟩ := hd
  exact q c d G' ((x4.trans (ExB.of (e5.trans f6))).trans x7) b7 hd hz
theorem col_draw {b sl st ha : Addr} {ss vs : List V} {hand : List Str} {Q : VK} (h1 : σ[1]? = some (some (.ref b))) (h5 : σ[5]? = some (some (.ref sl))) (hB : Bag H b) (hsl : H sl = some (.lst (ss ++ [.ref st]))) (hst : SqT K H st (.ref ha :: vs)) (hh : SqT K H ha (hand.map V.str)) (hl : hand.length ≤ 40) (q : ∀ v G, ExB b H G → Bag G b → (v = .non ∨ ∃ c, v = .str c) → Q v G) :
    tOp (rIxL K) (tOp rCat (tOp rRep (tCB (rListS K) (tCons (tOp (rIxT K) (tOp (rIxL K) (tVar 5) (tUn (rU fun i => .int (-i)) (tC (.int 1)))) (tC (.int 0))) tNil)) (tC (.int 3))) (tLst (tCons (tC (.str "amber")) (tCons (tC (.str "nowhere")) (tCons (tC .non) tNil))))) (tCall (spTake K) [] E0 (tCons (tVar 1) (tCons (tOp (rI0 fun i j => .int (i + j)) (tOp (rI CMulW fun i j => .int (i * j)) (tC (.int 3)) (tCB (rLenS K) (tCons (tOp (rIxT K) (tOp (rIxL K) (tVar 5) (tUn (rU fun i => .int (-i)) (tC (.int 1)))) (tC (.int 0))) tNil))) (tC (.int 3))) tNil))) σ H Q := by
  have ti : ∀ {G : Hp}, Ex H G → Ev (tOp (rIxT K) (tOp (rIxL K) (tVar 5) (tUn (rU fun i => .int (-i)) (tC (.int 1)))) (tC (.int 0))) σ G (.ref ha) := fun {G} e => ev_op (ev_op (ev_var (v := .ref sl) h5) ev_neg1 (rv_ixL (K := K) (sq_of (e _ _ hsl)) (at_m1 ss (.ref st)))) ev_c (rv_ixT (K := K) (ex_t e hst) (atI_nat (j := 0) rfl))
  refine (el_listT (K := K) (ti (Ex.refl H)) hh) H (Ex.refl H) _ fun p H1 np e1 hp => ?_
  refine ⟨p, 3, _, rfl, rfl, hp, by decide, by decide, by rw [List.length_map]; exact sz_of (by show hand.length * 3 ≤ _; omega), fun p2 np2 => ?_⟩
  have f2 := Ex.new (o := .lst (List.replicate (3 : Int).toNat (hand.map V.str)).flatten) np2
  refine (el_lst (ea_cons ev_c (ea_cons ev_c (ea_cons ev_c ea_nil))) (by show 3 ≤ 100000; decide)) _ (Ex.refl _) _ fun p3 H5 np3 e5 hp3 => ?_
  have hlen : (List.replicate (3 : Int).toNat (hand.map V.str)).flatten.length = 3 * hand.length := by
    rw [List.length_flatten, List.map_replicate, List.sum_replicate_nat, List.length_map]
    rfl
  refine ⟨p2, p3, _, _, rfl, rfl, e5 _ _ upd_same, hp3, sz_of (by rw [hlen]; show 3 * hand.length + 3 ≤ _; omega), fun t nt => ?_⟩
  have f6 := Ex.new (o := .lst ((List.replicate (3 : Int).toNat (hand.map V.str)).flatten ++ [.str "amber", .str "nowhere", .non])) nt
  have E6 := ((e1.trans f2).trans e5).trans f6
  have nt' : t ≠ b := fun z => by
    obtain ⟨_, _, _, c1, _⟩ := hB.ex ((e1.trans f2).trans e5)
    rw [z, c1] at nt
    cases nt
  have hn : ((3 : Int) * ((hand.map V.str).length : Int) + 3) = ((((List.replicate (3 : Int).toNat (hand.map V.str)).flatten ++ [V.str "amber", .str "nowhere", .non]).length : Nat) : Int) := by
    rw [List.length_append, hlen, List.length_map]
    show _ = ((3 * hand.length + 3 : Nat) : Int)
    omega
  refine drawV (K := K) (a := b) (i := 1) upd_same nt' hn (by rw [List.length_append]; show 1 ≤ _ + 3; omega) h1 (hB.ex E6) (ev_op (ev_op ev_c (ev_lenT (K := K) (ti E6) (ex_t E6 hh)) (fun G1 g1 Q1 q1 => ⟨3, _, rfl, rfl, wide_mul (a := 8) (b := 8) (by decide) (by rw [List.length_map]; omega) (by decide) (by decide) (by decide), q1 G1 (Ex.refl G1)⟩)) ev_c rv_I0) fun c G' hc x7 b7 => q c G' ((ExB.of E6).trans x7) b7 ?_
  rcases List.mem_append.mp hc with z | z
  · obtain ⟨l, hl, hcl⟩ := List.mem_flatten.mp z
    rw [List.eq_of_mem_replicate hl] at hcl
    obtain ⟨c', _, rfl⟩ := List.mem_map.mp hcl
    exact .inr ⟨c', rfl⟩
  · simp only [List.mem_cons, List.not_mem_nil, or_false] at z
    rcases z with rfl | rfl | rfl
    · exact .inr ⟨_, rfl⟩
    · exact .inr ⟨_, rfl⟩
    · exact .inl rfl
end
def rs14 (i : Nat) : Bool := decide (i ∈ [0, 6, 7, 10, 11, 12, 13])
theorem due_out {h : House} {s : KSt} {ps : List KSt} {wd : Str} {cv : V} {d : PyData} {o : Out} (hd : dueD h s ps wd cv d = .inl o) : (∃ c, o = .locked c) ∨ ∃ n, o = .cls n ∧ n < 14 ∧ rs14 n = true := by
  have cl : ∀ n, n ∈ [6, 7, 10, 11, 12, 13] → o = .cls n → (∃ c, o = .locked c) ∨ ∃ n, o = .cls n ∧ n < 14 ∧ rs14 n = true := fun n hn e => .inr ⟨n, e, by
    simp only [List.mem_cons, List.not_mem_nil, or_false] at hn
    rcases hn with rfl | rfl | rfl | rfl | rfl | rfl <;> exact ⟨by decide, by decide⟩⟩
  unfold dueD at hd
  split at hd
  · split at hd
    · cases hd
      exact cl 13 (by decide) rfl
    · cases hd
  · unfold dueA at hd
    split at hd
    · unfold dueL at hd
      split at hd
      · split at hd
        · cases hx : boxN h.1.length d with
          | none =>
            rw [hx] at hd
            cases hd
            exact cl 6 (by decide) rfl
          | some i =>
            rw [hx] at hd
            dsimp only at hd
            split at hd
            · split at hd
              · cases hd
                exact cl 12 (by decide) rfl
              · cases hd
            · cases hd
              exact cl 11 (by decide) rfl
        · cases hd
          exact cl 7 (by decide) rfl
      · cases hd
        exact cl 7 (by decide) rfl
    · cases hx : boxN h.1.length d with
      | none =>
        rw [hx] at hd
        cases hd
        exact cl 6 (by decide) rfl
      | some i =>
        rw [hx] at hd
        dsimp only at hd
        split at hd
        · unfold dueO at hd
          split at hd
          · cases hd
            exact cl 10 (by decide) rfl
          · split at hd
            · cases hd
              exact .inl ⟨_, rfl⟩
            · cases hd
        · split at hd
          · split at hd <;> cases hd
          · cases hd
            exact cl 11 (by decide) rfl
/-- what is due, told by data -/
theorem due_ok {h : House} {s s' : KSt} {ps : List KSt} {wd : Str} {cv : V} {d : PyData} (ok : ∀ t ∈ ps ++ [s], SOk h t) (hd : dueD h s ps wd cv d = .inr s') : ∀ t ∈ psD s ps wd ++ [s'], SOk h t := by
  unfold dueD at hd
  unfold psD
  split at hd
  · next hw =>
    rw [if_pos hw]
    rcases List.eq_nil_or_concat ps with rfl | ⟨p', t', rfl⟩
    · cases hd
    · rw [List.concat_eq_append] at hd ok ⊢
      rw [List.getLast?_append] at hd
      cases hd
      rw [List.dropLast_append_of_ne_nil (by simp)]
      intro t ht
      refine ok t ?_
      simp at ht ⊢
      rcases ht with z | z
      · exact .inl z
      · exact .inr (.inl z)
  · next hw =>
    rw [if_neg hw]
    intro t ht
    rcases List.mem_append.mp ht with z | z
    · exact ok t z
    · have : t = s' := by simpa using z
      rw [this]
      exact (ok s (by simp)).after hd
theorem due_head {h : House} {s s' : KSt} {ps : List KSt} {wd : Str} {cv : V} {d : PyData} (hh : (ps ++ [s]).head? = some (st0 h)) (hd : dueD h s ps wd cv d = .inr s') : (psD s ps wd ++ [s']).head? = some (st0 h) := by
  unfold dueD at hd
  unfold psD
  split at hd
  · next hw =>
    rw [if_pos hw]
    rcases List.eq_nil_or_concat ps with rfl | ⟨p', t', rfl⟩
    · cases hd
    · rw [List.concat_eq_append] at hd hh ⊢
      rw [List.getLast?_append] at hd
      cases hd
      rw [List.dropLast_append_of_ne_nil (by simp)]
      cases p' with
      | nil => exact hh
      | cons x r => exact hh
  · next hw =>
    rw [if_neg hw]
    cases ps with
    | nil => exact hh
    | cons x r => exact hh
theorem res_ne {o : Out} (h : (∃ c, o = .locked c) ∨ ∃ n, o = .cls n ∧ n < 14 ∧ rs14 n = true) : o ≠ .fine ∧ dataO o ≠ [] := by
  rcases h with ⟨c, rfl⟩ | ⟨n, rfl, _⟩
  · exact ⟨(fun z => by cases z), fun z => by cases z⟩
  · exact ⟨(fun z => by cases z), fun z => by cases z⟩
end Kw
set_option Elab.async false
set_option linter.all false
set_option maxRecDepth 100000
set_option maxHeartbeats 4000000
namespace KwX
open PySem PySem.Spec PyProof.Rows L2
/-- an own error made of any value, where nothing is handled -/
theorem mk_own1 {X : Cx} {D : Addr} {ms : List Value} {Bs nw it : String} {nm : Str} {e0 : Expr} {te : TE} {pA pB : Pos} (FB : ExcBaseFacts Bs nw it ms) (qd : PySem.W.excIn X.K D ms nw = true) (gd : X.mg nm = some (.ref D)) (kd : PySem.W.keepIn X.K (.ref D) = true) (rd : Raises X (.ref D)) (gl : Gl X nm) (pe : PE X e0 te)
    (st1 : starEach [e0] X.env = (false, eval e0 X.env) :: starEach [] X.env := by rfl) (ndb : (nm == ("__debug__" : Str)) = false := by decide) :
    L2N.PMk X (.Call (.Name nm pA) [e0] [] pB) (fun τ G Q => te τ G fun _ G1 => Q (.ref D) none G1) := by
  intro pins s0 τ G Q J want
  refine wpAny_Call_Name_kw (ld_glob J gl gd ?_ ndb)
  refine PySem.W.callWith_K (h₀ := X.base) J.ok.mod.kin kd ?_ st1 (by rfl)
  rw [st1]
  show wpAny _ _ (spliced ((false, eval e0 X.env) :: backTo pB (starEach [] X.env))) _ _ s0
  refine Calls.spliced_cons (thn (pe.run pins s0 τ G _ J want) fun u s1 ⟨v, G1, J1, r1, w1⟩ => ?_)
  refine Calls.spliced_nil ⟨J1.kIn, ?_⟩
  show wpAny _ _ (call (.ref D) [u]) _ _ _
  obtain ⟨y1, y2, y3, y4, y5, y6, y7, y8, y9, y10, y11, y12, y13, y14, y15, y16, y17, hC, hN, hni, T⟩ := exc_obj J1.kIn qd
  refine wpAny_call_exc_subT FB T hC hN hni (fun h1 e1 hm1 => ?_) (by show 1 ≤ sizeLine; decide)
  exact L2N.mk_of J1 hm1 rd w1 (J1.hok.gone hm1.new)
/-- several readings of one expression: any of them -/
theorem pe_any {ι : Type} {X : Cx} {e : Expr} {t : ι → TE} (h : ∀ i, PE X e (t i)) : PE X e (fun σ H Q => ∃ i, t i σ H Q) := ⟨fun pins s σ H Q I ⟨i, w⟩ => (h i).run pins s σ H Q I w⟩
/-- what never raises may stand where errors pass -/
theorem fn_up {P : Program} {w : World} {K : PySem.W.Frag} {mg : Str → Option Value} {base : Heap} {CX : CXT} {k : Nat} {f : Addr} {fd : FuncData} {ps : List Str} {sp : Sp} (F : FnOk P w K mg base CX0 k f fd ps sp) : FnOk P w K mg base CX k f fd ps sp :=
  ⟨F.len, fun A outer s H args us vs Q E hr e0 hb hv h => codeAny_mono (F.run A outer s H args us vs Q E hr e0 hb hv h) fun r s' got => by
    cases r with
    | error e => exact got.elim
    | ok fl => cases fl <;> exact got⟩
end KwX
namespace Kw
open PySem PySem.Spec PyProof.Rows L2 Evl KwX NdefX LamX
section
variable {P : Program} {w : World} {K : PySem.W.Frag} {mg : Str → Option Value} {base : Heap}
/-- lambda a, b, c: a(b) and a(b, c), a one of several defs -/
def spDoor1 {ι : Type} (fs : ι → Addr) (sps : ι → Sp) : Sp := fun vs H Q E => ∃ (i : ι) (y z : V), vs = [.ref (fs i), y, z] ∧ sps i [y] H Q E
def spDoor2 {ι : Type} (fs : ι → Addr) (sps : ι → Sp) : Sp := fun vs H Q E => ∃ (i : ι) (y z : V), vs = [.ref (fs i), y, z] ∧ sps i [y, z] H Q E
theorem lok_d1 {ι : Type} {fs : ι → Addr} {fds : ι → FuncData} {pss : ι → List Str} {sps : ι → Sp} {k : Nat} {F : NF} {pp p1 pos : Pos} (S : NScope ["a", "b", "c"] ["a", "b", "c"] [] F.scope) (cl0 : F.cl = [])
    (hb : ∀ (pm ctv : Value) (us : List Value), us.length = 3 → bindArgs (PySem.W.kla_fn F.name F.qual F.params (.Call (.Name "a" pp) [.Name "b" p1] [] pos) F.scope F.cl pm (.ref F.c) ctv) ⟨us, []⟩ = pure ((["a", "b", "c"] : List Str).zip us))
    (hk : ∀ i, PySem.W.keepIn K (.ref (fs i)) = true) (bn : ∀ i, Binds K (fds i) (pss i) []) (GL : ∀ i, FnOk P w K mg base (L2N.CX P w) k (fs i) (fds i) (pss i) (sps i)) :
    LOk P w K mg base (L2N.CX P w) (k + 1) F (.Call (.Name "a" pp) [.Name "b" p1] [] pos) ["a", "b", "c"] (spDoor1 fs sps) := by
  refine lok_of S cl0 hb (fun vs H Q E h => ?_) (fun g A outer s H vs Q E hr h => ?_)
  · obtain ⟨i, x, z, rfl, _⟩ := h
    rfl
  · obtain ⟨i, y, z, rfl, h⟩ := h
    refine ⟨_, pe_any fun i => pe_callL (E := E) (i := 0) (GL i) hr rfl (.inl (S.par "a" (by decide +kernel))) (hk i) (bn i) .nil (L2N.passes_call (L2N.takes_of rfl rfl rfl rfl) fun _ _ _ _ h => h) (pa_cons (pe_var (i := 1) rfl (.inl (S.par "b" (by decide +kernel)))) pa_nil), ?_⟩
    exact ⟨i, rfl, y, rfl, h⟩
theorem lok_d2 {ι : Type} {fs : ι → Addr} {fds : ι → FuncData} {pss : ι → List Str} {sps : ι → Sp} {k : Nat} {F : NF} {pp p1 p2 pos : Pos} (S : NScope ["a", "b", "c"] ["a", "b", "c"] [] F.scope) (cl0 : F.cl = [])
    (hb : ∀ (pm ctv : Value) (us : List Value), us.length = 3 → bindArgs (PySem.W.kla_fn F.name F.qual F.params (.Call (.Name "a" pp) [.Name "b" p1, .Name "c" p2] [] pos) F.scope F.cl pm (.ref F.c) ctv) ⟨us, []⟩ = pure ((["a", "b", "c"] : List Str).zip us))
    (hk : ∀ i, PySem.W.keepIn K (.ref (fs i)) = true) (bn : ∀ i, Binds K (fds i) (pss i) []) (GL : ∀ i, FnOk P w K mg base (L2N.CX P w) k (fs i) (fds i) (pss i) (sps i)) :
    LOk P w K mg base (L2N.CX P w) (k + 1) F (.Call (.Name "a" pp) [.Name "b" p1, .Name "c" p2] [] pos) ["a", "b", "c"] (spDoor2 fs sps) := by
  refine lok_of S cl0 hb (fun vs H Q E h => ?_) (fun g A outer s H vs Q E hr h => ?_)
  · obtain ⟨i, x, z, rfl, _⟩ := h
    rfl
  · obtain ⟨i, y, z, rfl, h⟩ := h
    refine ⟨_, pe_any fun i => pe_callL (E := E) (i := 0) (GL i) hr rfl (.inl (S.par "a" (by decide +kernel))) (hk i) (bn i) .nil (L2N.passes_call (L2N.takes_of rfl rfl rfl rfl) fun _ _ _ _ h => h) (pa_cons (pe_var (i := 1) rfl (.inl (S.par "b" (by decide +kernel)))) (pa_cons (pe_var (i := 2) rfl (.inl (S.par "c" (by decide +kernel)))) pa_nil)), ?_⟩
    exact ⟨i, rfl, y, rfl, z, rfl, h⟩
def pick4 {α : Type} (a b c d : α) : Fin 4 → α
  | 0 => a
  | 1 => b
  | 2 => c
  | 3 => d
def pick3 {α : Type} (a b c : α) : Fin 3 → α
  | 0 => a
  | 1 => b
  | 2 => c
def spMk1 (C : Addr) (sp : Sp) : Sp := fun vs H Q E => ∃ v y z, vs = [v, y, z] ∧ ∀ o dx, H o = none → H dx = none → dx ≠ o → sp [.ref o, v] (upd (upd H dx (.own o)) o (.ins C dx [])) (fun v H2 => v = .non ∧ Q (.ref o) H2) E
/-- lambda a, b, c: C(a) -/
theorem lok_mk {C fI : Addr} {fd : FuncData} {ps : List Str} {sp : Sp} {k : Nat} {F : NF} {x : Str} {pp p1 pos : Pos} (S : NScope ["a", "b", "c"] ["a", "b", "c"] [] F.scope) (cl0 : F.cl = []) (gl : F.scope.names.lookup x = some NameKind.globalImplicit)
    (hb : ∀ (pm ctv : Value) (us : List Value), us.length = 3 → bindArgs (PySem.W.kla_fn F.name F.qual F.params (.Call (.Name x pp) [.Name "a" p1] [] pos) F.scope F.cl pm (.ref F.c) ctv) ⟨us, []⟩ = pure ((["a", "b", "c"] : List Str).zip us))
    (M : Mk K C fI) (hm : mg x = some (.ref C)) (bn : Binds K fd ps []) (GL : FnOk P w K mg base (L2N.CX P w) k fI fd ps sp) (hx : (x == ("__debug__" : Str)) = false := by decide) :
    LOk P w K mg base (L2N.CX P w) (k + 2) F (.Call (.Name x pp) [.Name "a" p1] [] pos) ["a", "b", "c"] (spMk1 C sp) := by
  refine lok_of S cl0 hb (fun vs H Q E h => ?_) (fun g A outer s H vs Q E hr h => ?_)
  · obtain ⟨v, y, z, rfl, _⟩ := h
    rfl
  · obtain ⟨v, y, z, rfl, h⟩ := h
    refine ⟨_, pe_make (E := E) M GL hr gl hm bn .nil (L2N.passes_call (L2N.takes_of rfl rfl rfl rfl) fun _ _ _ _ h => h) (pa_cons (pe_var (i := 0) rfl (.inl (S.par "a" (by decide +kernel)))) pa_nil) hx, ?_⟩
    exact ⟨v, rfl, fun o dx n1 n2 ne => h o dx n1 n2 ne⟩
theorem lok_d4 {f1 f2 f3 f4 : Addr} {d1 d2 d3 d4 : FuncData} {q1 q2 q3 q4 : List Str} {sps : Fin 4 → Sp} {k : Nat} {F : NF} {pp p1 pos : Pos} (S : NScope ["a", "b", "c"] ["a", "b", "c"] [] F.scope) (cl0 : F.cl = [])
    (hb : ∀ (pm ctv : Value) (us : List Value), us.length = 3 → bindArgs (PySem.W.kla_fn F.name F.qual F.params (.Call (.Name "a" pp) [.Name "b" p1] [] pos) F.scope F.cl pm (.ref F.c) ctv) ⟨us, []⟩ = pure ((["a", "b", "c"] : List Str).zip us))
    (k1 : PySem.W.keepIn K (.ref f1) = true) (k2 : PySem.W.keepIn K (.ref f2) = true) (k3 : PySem.W.keepIn K (.ref f3) = true) (k4 : PySem.W.keepIn K (.ref f4) = true) (b1 : Binds K d1 q1 []) (b2 : Binds K d2 q2 []) (b3 : Binds K d3 q3 []) (b4 : Binds K d4 q4 [])
    (g1 : FnOk P w K mg base (L2N.CX P w) k f1 d1 q1 (sps 0)) (g2 : FnOk P w K mg base (L2N.CX P w) k f2 d2 q2 (sps 1)) (g3 : FnOk P w K mg base (L2N.CX P w) k f3 d3 q3 (sps 2)) (g4 : FnOk P w K mg base (L2N.CX P w) k f4 d4 q4 (sps 3)) :
    LOk P w K mg base (L2N.CX P w) (k + 1) F (.Call (.Name "a" pp) [.Name "b" p1] [] pos) ["a", "b", "c"] (spDoor1 (pick4 f1 f2 f3 f4) sps) :=
  lok_d1 (fds := pick4 d1 d2 d3 d4) (pss := pick4 q1 q2 q3 q4) S cl0 hb (fun i => match i with | 0 => k1 | 1 => k2 | 2 => k3 | 3 => k4) (fun i => match i with | 0 => b1 | 1 => b2 | 2 => b3 | 3 => b4) (fun i => match i with | 0 => g1 | 1 => g2 | 2 => g3 | 3 => g4)
theorem lok_d3 {f1 f2 f3 : Addr} {d1 d2 d3 : FuncData} {q1 q2 q3 : List Str} {sps : Fin 3 → Sp} {k : Nat} {F : NF} {pp p1 p2 pos : Pos} (S : NScope ["a", "b", "c"] ["a", "b", "c"] [] F.scope) (cl0 : F.cl = [])
    (hb : ∀ (pm ctv : Value) (us : List Value), us.length = 3 → bindArgs (PySem.W.kla_fn F.name F.qual F.params (.Call (.Name "a" pp) [.Name "b" p1, .Name "c" p2] [] pos) F.scope F.cl pm (.ref F.c) ctv) ⟨us, []⟩ = pure ((["a", "b", "c"] : List Str).zip us))
    (k1 : PySem.W.keepIn K (.ref f1) = true) (k2 : PySem.W.keepIn K (.ref f2) = true) (k3 : PySem.W.keepIn K (.ref f3) = true) (b1 : Binds K d1 q1 []) (b2 : Binds K d2 q2 []) (b3 : Binds K d3 q3 [])
    (g1 : FnOk P w K mg base (L2N.CX P w) k f1 d1 q1 (sps 0)) (g2 : FnOk P w K mg base (L2N.CX P w) k f2 d2 q2 (sps 1)) (g3 : FnOk P w K mg base (L2N.CX P w) k f3 d3 q3 (sps 2)) :
    LOk P w K mg base (L2N.CX P w) (k + 1) F (.Call (.Name "a" pp) [.Name "b" p1, .Name "c" p2] [] pos) ["a", "b", "c"] (spDoor2 (pick3 f1 f2 f3) sps) :=
  lok_d2 (fds := pick3 d1 d2 d3) (pss := pick3 q1 q2 q3) S cl0 hb (fun i => match i with | 0 => k1 | 1 => k2 | 2 => k3) (fun i => match i with | 0 => b1 | 1 => b2 | 2 => b3) (fun i => match i with | 0 => g1 | 1 => g2 | 2 => g3)
end
end Kw
set_option Elab.async false
set_option linter.all false
set_option maxRecDepth 100000
set_option maxHeartbeats 4000000
namespace Kw
open PySem PySem.Spec PyProof.Rows L2 Evl KwX NdefX LamX
/-- a class of the program, as one that is asked for -/
structure ClsT (K : PySem.W.Frag) (mg : Str → Option Value) (x : Str) (C : Addr) : Prop where
  g : mg x = some (.ref C)
  i : PySem.W.isClsIn K C = true
  t : PySem.W.typeIn K (.ref C) = some (.type "type")
  b : PySem.W.subIn K (.ref C) (.type "BaseException") = some true
  h : PySem.W.hasDictIn K C = true
theorem kit_ref {K : PySem.W.Frag} {C : Addr} {t : Value} {b : Bool} (i : PySem.W.isClsIn K C = true) (ty : PySem.W.typeIn K (.ref C) = some (.type "type")) (s : PySem.W.subIn K t (.ref C) = some b) (n : b = true ∨ (t == .ref C) = false) : PySem.W.kitOne K t (.ref C) = some b := by
  unfold PySem.W.kitOne
  split
  · rename_i h
    rcases n with n | n
    · rw [n]
    · rw [n] at h; cases h
  · show (if ((PySem.W.clsIn K C).isSome && PySem.W.typeIn K (.ref C) == some (.type "type")) = true then _ else _) = _
    have i' : (PySem.W.clsIn K C).isSome = true := i
    rw [i', ty]
    rw [if_pos (by rfl)]
    exact s
theorem kit_val {K : PySem.W.Frag} {C : Addr} (s : PySem.W.subIn K (.ref C) (.type "ValueError") = some true) : PySem.W.kitOne K (.ref C) (.type "ValueError") = some true := by
  unfold PySem.W.kitOne
  split
  · rfl
  · show (if PySem.W.kitMeta "ValueError" = true then PySem.W.subIn K (.ref C) (.type "ValueError") else none) = _
    rw [if_pos (by decide +kernel)]
    exact s
/-- what a raised class says of itself -/
structure RaiseT (K : PySem.W.Frag) (C : Addr) : Prop where
  v : PySem.W.subIn K (.ref C) (.type "ValueError") = some true
  e : ExcC K C
  q : PySem.W.excIn K C [.type "ValueError", .type "Exception", .type "BaseException", .type "object"] "ValueError.__new__" = true
  k : PySem.W.keepIn K (.ref C) = true
theorem RaiseT.exc {K : PySem.W.Frag} {mg : Str → Option Value} {x : Str} {C : Addr} (r : RaiseT K C) (c : ClsT K mg x C) : ExcT K mg x C := ⟨c.g, r.q, r.k, c.b, c.t⟩
theorem refT_of {K : PySem.W.Frag} {mg : Str → Option Value} {C dT dL dB : Addr} {d : Nat → Addr} {bs : Nat → Bool} (r : RaiseT K C) (cT : ClsT K mg "TooMany" dT) (cL : ClsT K mg "Locked" dL) (cB : ClsT K mg "BoxError" dB) (c : ∀ i, i < 14 → ClsT K mg (nmC i) (d i))
    (sT : PySem.W.subIn K (.ref C) (.ref dT) = some false) (sL : PySem.W.subIn K (.ref C) (.ref dL) = some false) (sB : PySem.W.subIn K (.ref C) (.ref dB) = some true)
    (s : ∀ i, i < 14 → PySem.W.subIn K (.ref C) (.ref (d i)) = some (bs i) ∧ (bs i = true ∨ (Value.ref C == .ref (d i)) = false)) (isi : mg "isinstance" = none) (ve : mg "ValueError" = none) : RefT K mg C d bs dT dL dB :=
  ⟨cT.g, cL.g, cB.g, fun i hi => (c i hi).g, PySem.W.exm_ref cT.b cT.h cT.t sT, PySem.W.exm_ref cL.b cL.h cL.t sL, PySem.W.exm_ref cB.b cB.h cB.t sB, fun i hi => kit_ref (c i hi).i (c i hi).t (s i hi).1 (s i hi).2, kit_val r.v, r.e, isi, ve⟩
def codeVs (vs : Array Value) (c P : Addr) : Bool := (match (vs[11]? : Option Value) with | some (.ref P') => P' == P | _ => false) &&
      (match vs.getD 18 .none with | .str _ _ => true | _ => false) && (match vs.getD 7 .none with | .int _ _ => true | _ => false) &&
      (match vs.getD 9 .none with | .bool _ => true | _ => false) && (match vs.getD 10 .none with | .int _ _ => true | _ => false) && c != P
theorem codeHd_by {K : PySem.W.Frag} {c P : Addr} {od : Option Addr} {vs : Array Value} {sl : Array (Option Value)} (h : K.lookup c = some ⟨.type "code", od, .fields vs, sl⟩) (v : codeVs vs c P = true) : PySem.W.codeHdIn K c P = true := by
  unfold PySem.W.codeHdIn
  rw [h]
  exact v
theorem lookup_none {α β : Type} [BEq α] [LawfulBEq α] : ∀ {l : List (α × β)} {a : α}, a ∉ l.map (·.1) → l.lookup a = none
  | [], _, _ => rfl
  | (x, y) :: r, a, h => by
    rw [List.map_cons, List.mem_cons, not_or] at h
    rw [List.lookup_cons, show (a == x) = false from beq_eq_false_iff_ne.mpr h.1]
    exact lookup_none h.2
theorem km_none {K : Params → PySem.W.Frag} {as : List Addr} {e : ∀ P, as = (K P).map (·.1)} {ts : List Addr} {w : World} {h : Heap} (Y : (PySem.W.kmHook K as e ts).says w h) {n : Addr} (hn : as.contains n = false) : (K w.params).lookup n = none := by
  refine lookup_none ?_
  rw [← e w.params]
  intro z
  rw [List.contains_iff_mem.mpr z] at hn
  cases hn
end Kw
set_option Elab.async false
set_option linter.all false
set_option maxRecDepth 100000
set_option maxHeartbeats 4000000
namespace Kw
open PySem PySem.Spec PyProof.Rows L2 Evl KwX NdefX LamX
abbrev sLaw : Stmt := topS 59
theorem scLaw : FnScope ["script", "bag", "house", "kept", "other", "states", "turn", "word", "number", "colour", "deed", "due", "kin", "locks", "inside"] ["script"] (defScope sLaw) := ⟨rfl, rfl, rfl, by decide +kernel, rfl, by decide +kernel, by decide +kernel⟩
def lamELaw0 : Expr := (exArg 0 (stEx ((stBody ((stBody ((defBody sLaw).getD 0 (.Pass ⟨0, 0, 0, 0⟩))).getD 3 (.Pass ⟨0, 0, 0, 0⟩))).getD 5 (.Pass ⟨0, 0, 0, 0⟩))))
def lamBLaw0 : Expr := lamBd lamELaw0
def lamMLaw0 : Addr → NF := mkLam "law" lamELaw0 (defScope sLaw)
theorem lamSLaw0 : nscB ["a", "b", "c"] ["a", "b", "c"] [] (lamSc lamELaw0 (defScope sLaw)) = true := by decide +kernel
def lamELaw1 : Expr := (exArg 0 (exLeft (stEx ((stBody ((defBody sLaw).getD 0 (.Pass ⟨0, 0, 0, 0⟩))).getD 6 (.Pass ⟨0, 0, 0, 0⟩)))))
def lamBLaw1 : Expr := lamBd lamELaw1
def lamMLaw1 : Addr → NF := mkLam "law" lamELaw1 (defScope sLaw)
theorem lamSLaw1 : nscB ["a", "b", "c"] ["a", "b", "c"] [] (lamSc lamELaw1 (defScope sLaw)) = true := by decide +kernel
def lamELaw2 : Expr := (exArg 0 (exLeft (stEx ((stBody ((defBody sLaw).getD 0 (.Pass ⟨0, 0, 0, 0⟩))).getD 7 (.Pass ⟨0, 0, 0, 0⟩)))))
def lamBLaw2 : Expr := lamBd lamELaw2
def lamMLaw2 : Addr → NF := mkLam "law" lamELaw2 (defScope sLaw)
theorem lamSLaw2 : nscB ["a", "b", "c"] ["a", "b", "c"] [] (lamSc lamELaw2 (defScope sLaw)) = true := by decide +kernel
theorem no_ba {h : House} : houseD (encH (h.1, ["b", "a"])) = false := by
  show ((decide (1 ≤ (h.1.map encB).length) && decide ((h.1.map encB).length ≤ 30)) && ((h.1.map encB).all boxD && colsD 6 (encC ["b", "a"]))) = false
  rw [show colsD 6 (encC ["b", "a"]) = false by decide +kernel, Bool.and_false, Bool.and_false]
theorem stB_ba {h : House} (o : OkHouse h) : StB (encH (h.1, ["b", "a"])) = true := by
  have h1 := stB_house o
  have h2 : (StB (encBs h.1) && (StB (encC h.2) && true)) = true := h1
  show (StB (encBs h.1) && (StB (encC ["b", "a"]) && true)) = true
  rw [Bool.and_eq_true] at h2
  rw [h2.1, show StB (encC ["b", "a"]) = true by decide +kernel]
  rfl
section
variable {P : Program} {w : World} {K : PySem.W.Frag} {mg : Str → Option Value} {base : Heap} {CT CK XL : Addr} {CD : Nat → Addr}
theorem ok_law {f c Pt fRef fBags fHouse fTake fLAf fLDo fLSt fKpI fKpE fKpR : Addr} {fdRef fdBags fdHouse fdTake fdLAf fdLDo fdLSt fdKpI fdKpE fdKpR : FuncData} {k : Nat} {kV doc pm ct oc : Value} {an od : Option Addr} {osl : Array (Option Value)} {T : List (Addr × Str)} (lk : K.lookup f = some ⟨oc, od, .func (PySem.W.fnOf "law" "law" (defArgs sLaw) (defBody sLaw) (defScope sLaw) .none kV doc pm an (.ref c) ct), osl⟩) (hcd : PySem.W.codeIn K (.ref c) "law" = true) (TB : TabB base mg c Pt) (hm : (Pt, ("law" : Str) ++ ".<locals>." ++ "<lambda>") ∈ T) (hu : ∀ p ∈ T, p.1 = Pt → p.2 = ("law" : Str) ++ ".<locals>." ++ "<lambda>") (DRef : Df K mg "_law_refused" sRef ["call", "one", "two", "three"] fRef fdRef) (CL : KCls K mg CK) (DBags : Df K mg "_law_bags" sBags ["script", "limit"] fBags fdBags) (DHouse : Df K mg "_law_house" sHouse ["bag", "boxes", "locks", "wide"] fHouse fdHouse) (DTake : Df K mg "_law_take" sTake ["bag", "many"] fTake fdTake) (DLAf : Df K mg "_law_after" sLAf ["house", "state", "deed"] fLAf fdLAf) (DLDo : Df K mg "_law_do" sLDo ["kept", "deed"] fLDo fdLDo) (DLSt : Df K mg "_law_stands" sLSt ["house", "kept", "state"] fLSt fdLSt) (MkI : Mk K CK fKpI) (BI : Binds K fdKpI ["self", "house"] []) (MKpE : MetD K CK "__eq__" sKpE ["self", "other"] fKpE fdKpE) (MKpR : MetD K CK "back" sKpR ["self"] fKpR fdKpR) (GRefLaw0 : FnOk P w K mg base CX0 (k + 8) fRef fdRef ["call", "one", "two", "three"] (spRefG CD lamMLaw0 lamBLaw0 (spLam2 (spLDo K CK CD XL)) rs14 false true CT XL)) (GRefLaw1 : FnOk P w K mg base CX0 (k + 8) fRef fdRef ["call", "one", "two", "three"] (spRefG CD lamMLaw1 lamBLaw1 (spLamM CK "inside" (spKpD K CK CD XL)) rs14 false true CT XL)) (GRefLaw2 : FnOk P w K mg base CX0 (k + 8) fRef fdRef ["call", "one", "two", "three"] (spRefG CD lamMLaw2 lamBLaw2 (spMk1 CK (spKpI K CK CD XL)) rs14 false true CT XL)) (GBags : FnOk P w K mg base CX0 (k + 3) fBags fdBags ["script", "limit"] (spBags K 6)) (GHouse : FnOk P w K mg base CX0 (k + 3) fHouse fdHouse ["bag", "boxes", "locks", "wide"] (spHs K)) (GTake : FnOk P w K mg base CX0 (k + 1) fTake fdTake ["bag", "many"] (spTake K)) (GLAf : FnOk P w K mg base CX0 (k + 3) fLAf fdLAf ["house", "state", "deed"] (spLAf K)) (GLDo : FnOk P w K mg base (L2N.CX P w) (k + 7) fLDo fdLDo ["kept", "deed"] (spLDo K CK CD XL)) (GLSt : FnOk P w K mg base CX0 (k + 6) fLSt fdLSt ["house", "kept", "state"] (spLSt K CK)) (GKpI : FnOk P w K mg base (L2N.CX P w) (k + 5) fKpI fdKpI ["self", "house"] (spKpI K CK CD XL)) (GKpE : FnOk P w K mg base (L2N.CX P w) (k + 1) fKpE fdKpE ["self", "other"] (spKpE K CK CD XL)) (GKpR : FnOk P w K mg base (L2N.CX P w) (k + 1) fKpR fdKpR ["self"] (spKpR K CK CD XL)) (B : Bu mg) : FnOk P w K mg base CX0 (k + 9) f (PySem.W.fnOf "law" "law" (defArgs sLaw) (defBody sLaw) (defScope sLaw) .none kV doc pm an (.ref c) ct) ["script"] (spLawX K T) := by
  refine okT lk hcd scLaw (fun vs H Q E h => ?_) (fun A outer s H vs Q E hr h => ?_)
  · obtain ⟨a, ns, rfl, _⟩ := h
    rfl
  · obtain ⟨sa, ns, rfl, hS, hl, hT, q⟩ := h
    have hu64 := hr.units
    refine ⟨_, (pss_cons (ps_for PassesOwn.never rfl (pi_list (pcall DBags GBags (hr.mono (by omega)) (pa_cons (pv 0) (pa_cons pe_int pa_nil)))) (pg_name (i := 1) scLaw.nd rfl (.inl rfl))
      (pss_cons (ps_set (i := 2) scLaw.nd rfl (.inl rfl) (pcall DHouse GHouse (hr.mono (by omega)) (pa_cons (pv 1) (pa_cons pe_int (pa_cons pe_int (pa_cons (pe_ix ix_list (pe_lst (pa_cons pe_int (pa_cons pe_int pa_nil))) (pcall DTake GTake (hr.mono (by omega)) (pa_cons (pv 1) (pa_cons pe_int pa_nil))) (fun _ _ => rfl)) pa_nil))))))
      (pss_cons (ps_par (i := 3) (j := 4) (by rfl) scLaw.nd rfl rfl (by decide) rfl rfl (pa_cons (pe_make (E := E0) MkI GKpI (hr.mono (by omega)) (by rfl) CL.g BI .nil passN (pa_cons (pv 2) pa_nil)) (pa_cons (pe_make (E := E0) MkI GKpI (hr.mono (by omega)) (by rfl) CL.g BI .nil passN (pa_cons (pv 2) pa_nil)) pa_nil)) (by rfl))
      (pss_cons (ps_set (i := 5) scLaw.nd rfl (.inl rfl) (pe_lst (pa_cons (pe_tup (pa_cons (pe_ix ix_tup (pv 2) pe_int (fun _ _ => rfl)) (pa_cons (pe_tup pa_nil) (pa_cons (pe_tup pa_nil) (pa_cons (pe_callTy call_tupOf (by rfl) B.tup boot_tuple (pa_cons (pe_lc (own := [("locks", 13), ("inside", 14)]) (g := (gTup K 2 (gCons (gName 13) (gCons (gName 14) gNil)))) (tt := tYes) (te := (tVar 14)) rfl scLaw.nd (pi_tup (pe_ix ix_tup (pv 2) pe_int (fun _ _ => rfl))) (blkOk_by (N := ["script", "bag", "house", "kept", "other", "states", "turn", "word", "number", "colour", "deed", "due", "kin", "locks", "inside"]) (sc := defScope sLaw) (by decide +kernel)) (fun _ _ _ _ _ => (pg_tup rfl (pgs_cons (pg_name (i := 13) scLaw.nd rfl (.inl rfl)) (pgs_cons (pg_name (i := 14) scLaw.nd rfl (.inl rfl)) pgs_nil)))) (fun _ _ _ _ _ => pts_nil) (fun _ _ _ _ _ => (pv 14))) pa_nil)) pa_nil))))) pa_nil)))
      (pss_cons (ps_for PassesOwn.never rfl (pi_range1 (by rfl) B.rng (pa_cons (pcall DTake GTake (hr.mono (by omega)) (pa_cons (pv 1) (pa_cons pe_int pa_nil))) pa_nil)) (pg_name (i := 6) scLaw.nd rfl (.inl rfl))
      (pss_cons (ps_set (i := 7) scLaw.nd rfl (.inl rfl) (pe_ix ix_list (pe_lst (pa_cons pe_str (pa_cons pe_str (pa_cons pe_str (pa_cons pe_str (pa_cons pe_str (pa_cons pe_str (pa_cons pe_str (pa_cons pe_str pa_nil))))))))) (pcall DTake GTake (hr.mono (by omega)) (pa_cons (pv 1) (pa_cons pe_int pa_nil))) (fun _ _ => rfl)))
      (pss_cons (ps_set (i := 8) scLaw.nd rfl (.inl rfl) (pe_ix ix_list (pe_op op_cat (pe_op op_rep (pe_lst (pa_cons (pcall DTake GTake (hr.mono (by omega)) (pa_cons (pv 1) (pa_cons (pe_callB call_len_seq (by rfl) B.len PySem.boot_len (pa_cons (pe_ix ix_tup (pv 2) pe_int (fun _ _ => rfl)) pa_nil)) pa_nil))) pa_nil)) pe_int) (pe_lst (pa_cons (pe_un un_neg pe_int) (pa_cons (pe_callB call_len_seq (by rfl) B.len PySem.boot_len (pa_cons (pe_ix ix_tup (pv 2) pe_int (fun _ _ => rfl)) pa_nil)) (pa_cons pe_non (pa_cons pe_bl pa_nil)))))) (pcall DTake GTake (hr.mono (by omega)) (pa_cons (pv 1) (pa_cons pe_int pa_nil))) (fun _ _ => rfl)))
      (pss_cons (ps_set (i := 9) scLaw.nd rfl (.inl rfl) (pe_ix ix_list (pe_op op_cat (pe_op op_rep (pe_callTy call_list_of (by rfl) B.lst boot_list (pa_cons (pe_ix ix_tup (pe_ix ix_list (pv 5) (pe_un un_neg pe_int) (fun _ _ => rfl)) pe_int (fun _ _ => rfl)) pa_nil)) pe_int) (pe_lst (pa_cons pe_str (pa_cons pe_str (pa_cons pe_non pa_nil))))) (pcall DTake GTake (hr.mono (by omega)) (pa_cons (pv 1) (pa_cons (pe_op op_add (pe_op op_mulW pe_int (pe_callB call_len_seq (by rfl) B.len PySem.boot_len (pa_cons (pe_ix ix_tup (pe_ix ix_list (pv 5) (pe_un un_neg pe_int) (fun _ _ => rfl)) pe_int (fun _ _ => rfl)) pa_nil))) pe_int) pa_nil))) (fun _ _ => rfl)))
      (pss_cons (ps_par (i := 10) (j := 11) (by rfl) scLaw.nd rfl rfl (by decide) rfl rfl (pa_cons (pe_tup (pa_cons (pv 7) (pa_cons (pv 8) (pa_cons (pv 9) pa_nil)))) (pa_cons pe_non pa_nil)) (by rfl))
      (pss_cons (ps_if (pt_cmpR op_eq (pv 7) pe_str (nomark _)) (pss_one (ps_set (i := 11) scLaw.nd rfl (.inl rfl) (pe_ifExp (pt_cmpR op_gt (pe_callB call_len_seq (by rfl) B.len PySem.boot_len (pa_cons (pv 5) pa_nil)) pe_int (nomark _)) (pe_ix ix_list (pv 5) (pe_un un_neg pe_int) (fun _ _ => rfl)) (pe_lst (pa_cons pe_str (pa_cons pe_bl pa_nil)))))) (pss_one (ps_set (i := 11) scLaw.nd rfl (.inl rfl) (pcall DLAf GLAf (hr.mono (by omega)) (pa_cons (pv 2) (pa_cons (pe_ix ix_list (pv 5) (pe_un un_neg pe_int) (fun _ _ => rfl)) (pa_cons (pv 10) pa_nil)))))))
      (pss_cons (ps_set (i := 12) scLaw.nd rfl (.inl rfl) (pcall DRef GRefLaw0 (hr.mono (by omega)) (pa_cons (pe_lamV TB rfl hm hu rfl (by decide +kernel) (fun _ => rfl)) (pa_cons (pv 3) (pa_cons (pv 10) (pa_cons pe_int pa_nil))))))
      (pss_cons (ps_if (pt_cmpR (op_neD hu64) (pv 12) (pe_ifExp (pt_val (pe_callB call_isi (by rfl) B.isi boot_isinstance (pa_cons (pv 11) (pa_cons (pe_bltn (v := .ty "list") (by rfl) B.lst boot_list rfl) pa_nil)))) (pv 11) (pe_lst pa_nil)) (nomark _)) (pss_one (ps_ret pe_bl)) pss_nil)
      (pss_cons (ps_if (pt_cmpR (op_eqD hu64) (pv 12) (pe_lst pa_nil) (nomark _)) (pss_cons (ps_set (i := 5) scLaw.nd rfl (.inl rfl) (pe_ifExp (pt_cmpR op_eq (pv 7) pe_str (nomark _)) (pe_slice sl_list (pv 5) po_none (po_some (pe_un un_neg pe_int))) (pe_op op_cat (pv 5) (pe_lst (pa_cons (pv 11) pa_nil)))))
      (pss_one (ps_expr (pe_call (E := E0) GLDo (hr.mono (by omega)) (by rfl) DLDo.g DLDo.F.kp DLDo.b .nil passN (pa_cons (pv 4) (pa_cons (pv 10) pa_nil)))))) pss_nil)
      (pss_one (ps_if (PW.pt (pw_or (pt_not (pt_val (pcall DLSt GLSt (hr.mono (by omega)) (pa_cons (pv 2) (pa_cons (pv 3) (pa_cons (pe_ix ix_list (pv 5) (pe_un un_neg pe_int) (fun _ _ => rfl)) pa_nil)))))) (pw_or (pt_not (pt_cmpR (KwX.op_eqI GKpE MKpE.M.at_ MKpE.M.fn MKpE.b (hr.mono (by omega)) passN) (pv 3) (pv 4) (nomark _))) (pw_or1 (pt_cmpR (KwX.op_eqI GKpE MKpE.M.at_ MKpE.M.fn MKpE.b (hr.mono (by omega)) passN) (pv 3) (pv 2) (nomark _)))))) (pss_one (ps_ret pe_bl)) pss_nil)))))))))))
      (pss_cons (ps_for PassesOwn.never rfl (pi_range1 (by rfl) B.rng (pa_cons (pe_op op_sub (pe_callB call_len_seq (by rfl) B.len PySem.boot_len (pa_cons (pv 5) pa_nil)) pe_int) pa_nil)) (pg_name (i := 6) scLaw.nd rfl (.inl rfl))
      (pss_one (ps_expr (pe_meth0 (E := E0) (pv 3) CL.c MKpR.M GKpR (hr.mono (by omega)) MKpR.b .nil passN))))
      (pss_cons (ps_if (PW.pt (pw_or (pt_not (pt_cmpR (KwX.op_eqI GKpE MKpE.M.at_ MKpE.M.fn MKpE.b (hr.mono (by omega)) passN) (pv 3) (pe_make (E := E0) MkI GKpI (hr.mono (by omega)) (by rfl) CL.g BI .nil passN (pa_cons (pv 2) pa_nil)) (nomark _))) (pw_or1 (pt_cmpR op_ne (pe_cmpR (KwX.op_eqI GKpE MKpE.M.at_ MKpE.M.fn MKpE.b (hr.mono (by omega)) passN) (pv 3) (pv 4) (nomark _)) (pe_cmpR (op_eqD hu64) (pe_ix ix_list (pv 5) pe_int (fun _ _ => rfl)) (pe_ix ix_list (pv 5) (pe_un un_neg pe_int) (fun _ _ => rfl)) (nomark _)) (nomark _))))) (pss_one (ps_ret pe_bl)) pss_nil)
      (pss_cons (ps_if (pt_cmpR (op_neD hu64) (pcall DRef GRefLaw1 (hr.mono (by omega)) (pa_cons (pe_lamV TB rfl hm hu rfl (by decide +kernel) (fun _ => rfl)) (pa_cons (pv 3) (pa_cons (pe_callB call_len_seq (by rfl) B.len PySem.boot_len (pa_cons (pe_ix ix_tup (pv 2) pe_int (fun _ _ => rfl)) pa_nil)) (pa_cons pe_int pa_nil))))) (pe_lst (pa_cons pe_str (pa_cons pe_bl pa_nil))) (nomark _)) (pss_one (ps_ret pe_bl)) pss_nil)
      (pss_one (ps_if (pt_cmpR (op_neD hu64) (pcall DRef GRefLaw2 (hr.mono (by omega)) (pa_cons (pe_lamV TB rfl hm hu rfl (by decide +kernel) (fun _ => rfl)) (pa_cons (pe_tup (pa_cons (pe_ix ix_tup (pv 2) pe_int (fun _ _ => rfl)) (pa_cons (pe_tup (pa_cons pe_str (pa_cons pe_str pa_nil))) pa_nil))) (pa_cons pe_int (pa_cons pe_int pa_nil))))) (pe_lst (pa_cons pe_str (pa_cons pe_bl pa_nil))) (nomark _)) (pss_one (ps_ret pe_bl)) pss_nil))))))))))
      (pss_one (ps_ret pe_bl))), ?_⟩
    refine bags_forT (lim := 6) (SlotsN sa 14) rfl hS hl hT ⟨_, rfl, rfl⟩ (fun b H1 σ' N hσ hb hT1 nx => ?_) (fun σ' H1 hσ _ => ?_)
    · obtain ⟨ys, hys, rfl⟩ := hσ
      refine match ys, hys with | [y1, y2, y3, y4, y5, y6, y7, y8, y9, y10, y11, y12, y13, y14], _ => ?_
      -- house
      refine ⟨.ref b, rfl, ?_⟩
      refine menu (K := K) (cs := [3, 8]) (ea_cons ev_c (ea_cons ev_c ea_nil)) rfl (by decide) rfl hb fun c2 H3 hc2 x3 b3 => ?_
      have hc2' : ∃ m : Nat, c2 = (m : Int) ∧ 1 ≤ m ∧ m ≤ 12 := by
        simp only [List.mem_cons, List.mem_singleton, List.not_mem_nil, or_false] at hc2
        rcases hc2 with rfl | rfl
        · exact ⟨3, rfl, by decide, by decide⟩
        · exact ⟨8, rfl, by decide, by decide⟩
      obtain ⟨m2, rfl, p3, p4⟩ := hc2'
      refine ⟨b, 8, 2, m2, rfl, b3, by decide, by decide, by decide, p3, p4, fun hv h H4 x4 b4 hA ho hl8 _ hnm => ?_⟩
      have hl8 : h.1.length ≤ 8 := hl8
      have X4 : ExB b H1 H4 := x3.trans x4
      have T4 := Tabs.bag hb X4 hT1
      have ho1 := ho.1
      have h30 := ho.2.1
      have hA' := hA
      obtain ⟨hva, hba, hka, rfl, hva1, hba1, hka1⟩ := hA'
      refine q_parT (σ := [some (.ref sa), some (.ref b), some (.ref hva), y3, y4, y5, y6, y7, y8, y9, y10, y11, y12, y13, y14]) (mk_kept (K := K) (CD := CD) (XL := XL) (i := 2) rfl hA ho fun a pl H5 e5 na5 np5 hK5 => mk_kept (K := K) (CD := CD) (XL := XL) (i := 2) rfl (hA.keep (KeepT.ex e5)) ho fun a2 pl2 H6 e6 na6 np6 hK6 => ⟨_, _, rfl, ?_⟩)
      have E6 := e5.trans e6
      -- states
      refine q_asgV (σ := [some (.ref sa), some (.ref b), some (.ref hva), some (.ref a), some (.ref a2), y5, y6, y7, y8, y9, y10, y11, y12, y13, y14]) (lst1_src (ep_st0 (K := K) (hA.keep (KeepT.ex E6)) h30 H6 (Ex.refl H6) _ fun sv H7 e7 hsv => ⟨by show 1 ≤ sizeLine; decide, fun sl nsl => ?_⟩))
      have f8 := Ex.new (o := .lst [sv]) nsl
      have K5 := hK5.ex ((e6.trans e7).trans f8)
      have K6 := hK6.ex (e7.trans f8)
      have naa : a ≠ a2 := fun z => by
        obtain ⟨dx, hv, sv, pvs, g1, _⟩ := hK5
        rw [← z, g1] at na6
        cases na6
      have npp : pl ≠ pl2 := fun z => by
        obtain ⟨dx, hv, sv, pvs, g1, g2, _⟩ := hK5
        rw [← z, g2] at np6
        cases np6
      have nsl1 : H1 sl = none ∧ sl ≠ b ∧ sl ≠ pl ∧ sl ≠ pl2 := by
        have K57 := hK5.ex (e6.trans e7)
        have K67 := hK6.ex e7
        obtain ⟨_, _, _, _, _, g2, _⟩ := K57
        obtain ⟨_, _, _, _, _, g4, _⟩ := K67
        obtain ⟨_, _, _, c1, _⟩ := b4.ex (E6.trans e7)
        refine ⟨?_, (fun z => by rw [z, c1] at nsl; cases nsl), (fun z => by rw [z, g2] at nsl; cases nsl), fun z => by rw [z, g4] at nsl; cases nsl⟩
        have n7 := fresh_back (E6.trans e7) nsl
        cases e : H1 sl with
        | none => rfl
        | some o =>
          by_cases z : sl = b
          · obtain ⟨_, _, _, c4, _⟩ := b4
            rw [z, c4] at n7
            cases n7
          · rw [X4 _ _ z e] at n7
            cases n7
      have fresh4 : ∀ c, H4 c = none → H1 c = none := fun c hc => by
        cases e : H1 c with
        | none => rfl
        | some o =>
          by_cases z : c = b
          · obtain ⟨_, _, _, c4, _⟩ := b4
            rw [z, c4] at hc
            cases hc
          · rw [X4 _ _ z e] at hc
            cases hc
      have na1 := fresh4 a na5
      have np1 := fresh4 pl np5
      have na2 := fresh4 a2 (fresh_back e5 na6)
      have np2 := fresh4 pl2 (fresh_back e5 np6)
      have I0 : DInv K CK T H1 (upd H7 sl (.lst [sv])) b a pl a2 pl2 sl (.ref hva) h (st0 h) [] [sv] := ⟨(XB.b X4).trans (XB.ex ((E6.trans e7).trans f8)), b4.ex ((E6.trans e7).trans f8), T4.ext ((E6.trans e7).trans f8), hA.keep (KeepT.ex ((E6.trans e7).trans f8)), K5, K6, upd_same, .cons (hsv.keep (KeepT.ex f8)) .nil, (fun t ht => by
        have : t = st0 h := by simpa using ht
        rw [this]
        exact SOk.st0 ho hnm), nsl1.2.1, nsl1.2.2.1, nsl1.2.2.2, rfl⟩
      generalize upd H7 sl (.lst [sv]) = H8 at I0
      -- deeds
      refine q_mid (fun σ' G => ∃ (sl : Addr) (s : KSt) (ps : List KSt) (ss : List V) (y6 y7 y8 y9 y10 y11 y12 : Option V), σ' = [some (.ref sa), some (.ref b), some (.ref hva), some (.ref a), some (.ref a2), some (.ref sl), y6, y7, y8, y9, y10, y11, y12, y13, y14] ∧ DInv K CK T H1 G b a pl a2 pl2 sl (.ref hva) h s ps ss ∧ ps.length ≤ 41) (fun σ' G hG => ?_) (fun N' hN' => ?_)
      rotate_left
      · refine ⟨.ref b, rfl, b, 41, rfl, I0.bg, by decide, fun r H9 r0 r1 x9 b9 => ⟨r, rfl, by omega, by omega, ?_⟩⟩
        have I1 := I0.bag x9 b9
        refine for_range (lo := 0) (n := r.toNat) (fun i σ' G => ∃ (sl : Addr) (s : KSt) (ps : List KSt) (ss : List V) (y6 y7 y8 y9 y10 y11 y12 : Option V), σ' = [some (.ref sa), some (.ref b), some (.ref hva), some (.ref a), some (.ref a2), some (.ref sl), y6, y7, y8, y9, y10, y11, y12, y13, y14] ∧ DInv K CK T H1 G b a pl a2 pl2 sl (.ref hva) h s ps ss ∧ ps.length ≤ i) ⟨sl, st0 h, [], [sv], y6, y7, y8, y9, y10, y11, y12, rfl, I1, Nat.le_refl _⟩ (fun i σ' G hi hP => ?_) (fun σ' G hP => ?_)
        · obtain ⟨sl, s, ps, ss, y6, y7, y8, y9, y10, y11, y12, rfl, I, hpl⟩ := hP
          -- word
          refine q_asgV (σ := [some (.ref sa), some (.ref b), some (.ref hva), some (.ref a), some (.ref a2), some (.ref sl), some _, y7, y8, y9, y10, y11, y12, y13, y14]) (menuV (K := K) (cs := [.str "open", .str "open", .str "break", .str "shut", .str "take", .str "lay", .str "lay", .str "back"]) (ea_cons ev_c (ea_cons ev_c (ea_cons ev_c (ea_cons ev_c (ea_cons ev_c (ea_cons ev_c (ea_cons ev_c (ea_cons ev_c ea_nil)))))))) rfl (by decide) rfl I.bg fun wv G1 hwv x1 b1 => ?_)
          obtain ⟨wd, rfl, hwd⟩ : ∃ wd, wv = .str wd ∧ wd ∈ words6 := by
            simp only [List.mem_cons, List.not_mem_nil, or_false] at hwv
            rcases hwv with rfl | rfl | rfl | rfl | rfl | rfl | rfl | rfl <;> exact ⟨_, rfl, by decide⟩
          have I1 := I.bag x1 b1
          have hA1 := I1.hA
          obtain ⟨hva', hba', hka', e', a1, ⟨bvs, ab1, ab2⟩, a3⟩ := hA1
          cases e'
          have hbl := paired_len ab2
          -- number
          refine q_asgV (σ := [some (.ref sa), some (.ref b), some (.ref hva), some (.ref a), some (.ref a2), some (.ref sl), some _, some (.str wd), y8, y9, y10, y11, y12, y13, y14]) (num_draw (K := K) rfl rfl I1.bg a1 ab1 ⟨by omega, by omega⟩ fun nv d G2 x2 b2 hd hfz => ?_)
          have I2 := I1.bag x2 b2
          obtain ⟨ss', stv, ess, _, hst⟩ := paired_snoc I2.st
          subst ess
          obtain ⟨st, ha, oa, ba, la, lvs, rfl, hS⟩ := hst
          have okS := I.ok s (by simp)
          -- colour
          refine q_asgV (σ := [some (.ref sa), some (.ref b), some (.ref hva), some (.ref a), some (.ref a2), some (.ref sl), some _, some (.str wd), some nv, y9, y10, y11, y12, y13, y14]) (col_draw (K := K) rfl rfl I2.bg I2.hs hS.t hS.h okS.ok.hl fun cv G3 x3 b3 hcv => ?_)
          have I3 := I2.bag x3 b3
          have hd3 := dp_keep (I2.bg.keepT x3) _ _ hfz hd
          -- deed, due
          refine q_parT (σ := [some (.ref sa), some (.ref b), some (.ref hva), some (.ref a), some (.ref a2), some (.ref sl), some _, some (.str wd), some nv, some cv, y10, y11, y12, y13, y14]) ⟨.str wd, rfl, nv, rfl, cv, rfl, by show 3 ≤ sizeLine; decide, fun dp ndp => ⟨_, _, rfl, ?_⟩⟩
          have f4 := Ex.new (o := .tup [.str wd, nv, cv]) ndp
          have I4 := I3.ex f4
          have hd4 := dp_ex f4 _ _ hd3
          have hdp4 : SqT K (upd G3 dp (.tup [.str wd, nv, cv])) dp [.str wd, nv, cv] := st_of upd_same
          have hS4 := (hS.keep (I2.bg.keepT x3)).keep (KeepT.ex f4)
          generalize upd G3 dp (.tup [.str wd, nv, cv]) = G4 at f4 I4 hd4 hdp4 hS4
          refine q_mid (fun σ' G => ∃ (z6 : Option V) (dv : V), σ' = [some (.ref sa), some (.ref b), some (.ref hva), some (.ref a), some (.ref a2), some (.ref sl), z6, some (.str wd), some nv, some cv, some (.ref dp), some dv, y12, y13, y14] ∧ Ex G4 G ∧ DueAt K G dv (dueD h s ps wd cv d)) (fun σ' G hG => ?_) (fun N2 hN2 => ?_)
          rotate_left
          · refine s_if (σ := [some (.ref sa), some (.ref b), some (.ref hva), some (.ref a), some (.ref a2), some (.ref sl), some _, some (.str wd), some nv, some cv, some (.ref dp), some .non, y12, y13, y14]) (b := decide (wd = "back")) (et_is (et_test (ev_op (ev_var (v := .str wd) rfl) ev_c (rv_eq rfl))) dec_str) (fun hb5 G5 e5 => ?_) (fun hb5 G5 e5 => ?_)
            · obtain rfl := of_decide_eq_true hb5
              have I5 := I4.ex e5
              refine (et_is (et_test (ev_op (ev_len (K := K) (σ := [some (.ref sa), some (.ref b), some (.ref hva), some (.ref a), some (.ref a2), some (.ref sl), some _, some (.str "back"), some nv, some cv, some (.ref dp), some .non, y12, y13, y14]) (ev_var (v := .ref sl) (i := 5) rfl) (sq_of I5.hs)) ev_c rv_I0)) rfl) G5 (Ex.refl G5) _ fun G6 e6 => ?_
              rcases List.eq_nil_or_concat ps with rfl | ⟨ps', s', rfl⟩
              · have hl1 : (ss' ++ [V.ref st]).length = 1 := paired_len I5.st
                rw [hl1, if_neg (by decide)]
                exact due_cls (K := K) (n := 13) (by decide) rfl fun v' G7 e7 hv => hN2 _ _ ⟨_, v', rfl, (e5.trans e6).trans e7, hv⟩
              · have I6 := I5.ex e6
                have hst6 := I6.st
                rw [List.concat_eq_append] at hst6
                obtain ⟨xs1, v1, q1, q2, q3⟩ := paired_snoc hst6
                obtain ⟨xs2, v2, q4, q5, q6⟩ := paired_snoc q2
                have hs6 := I6.hs
                rw [q1, q4] at hs6
                have hl2 : (ss' ++ [V.ref st]).length = xs2.length + 2 := by rw [q1, q4]; simp
                rw [hl2, if_pos (decide_eq_true (by omega))]
                refine ⟨.ref sl, rfl, 2, rfl, sl, _, -2, v2, rfl, rfl, sq_of hs6, at_m2 xs2 v2 v1, hN2 _ _ ⟨_, v2, rfl, e5.trans e6, ?_⟩⟩
                show DueAt K G6 v2 (dueD h s (ps'.concat s') "back" cv d)
                have : dueD h s (ps'.concat s') "back" cv d = .inr s' := by
                  unfold dueD
                  rw [if_pos rfl, List.concat_eq_append, List.getLast?_append]
                  rfl
                rw [this]
                exact q6
            · have hwb := of_decide_eq_false hb5
              have I5 := I4.ex e5
              refine ⟨.ref hva, rfl, .ref sl, rfl, 1, rfl, sl, _, -1, .ref st, rfl, rfl, sq_of I5.hs, at_m1 ss' (.ref st), .ref dp, rfl, ?_⟩
              refine ⟨.ref hva, h, st, ha, oa, ba, la, dp, lvs, s, wd, cv, nv, d, rfl, I5.hA, hS4.keep (KeepT.ex e5), okS, ex_t e5 hdp4, hcv, dp_ex e5 _ _ hd4, fun v' G6 e6 hv => hN2 _ _ ⟨_, v', rfl, e5.trans e6, ?_⟩⟩
              unfold dueD
              rw [if_neg hwb]
              exact hv
          obtain ⟨z6, dv, rfl, e5, hdue⟩ := hG
          have I5 := I4.ex e5
          have hdp5 := ex_t e5 hdp4
          have hd5 := dp_ex e5 _ _ hd4
          -- kin
          refine q_mid (fun σ' G' => ∃ kp, σ' = [some (.ref sa), some (.ref b), some (.ref hva), some (.ref a), some (.ref a2), some (.ref sl), z6, some (.str wd), some nv, some cv, some (.ref dp), some dv, some (.ref kp), y13, y14] ∧ SqT K G' dp [.str wd, nv, cv] ∧ Dp K G' nv d ∧ ((∃ o, dueD h s ps wd cv d = .inl o ∧ DInv K CK T H1 G' b a pl a2 pl2 sl (.ref hva) h s ps (ss' ++ [.ref st]) ∧ G' kp = some (.lst (resO o)) ∧ DueAt K G' dv (.inl o)) ∨ (∃ s', dueD h s ps wd cv d = .inr s' ∧ G' kp = some (.lst []) ∧ DueAt K G' dv (.inr s') ∧ XB b H1 G' ∧ Bag G' b ∧ Tabs T G' ∧ HouseAt K G' (.ref hva) h ∧ KpAt K CK G' a pl h s' (psD s ps wd) ∧ KpAt K CK G' a2 pl2 h s ps ∧ G' sl = some (.lst (ss' ++ [.ref st])) ∧ Paired (StAt K G') (ss' ++ [.ref st]) (ps ++ [s])))) (fun σ' G' hG => ?_) (fun N3 hN3 => ?_)
          rotate_left
          · refine ref_do (T := T) (σ := [some (.ref sa), some (.ref b), some (.ref hva), some (.ref a), some (.ref a2), some (.ref sl), z6, some (.str wd), some nv, some cv, some (.ref dp), some dv, y12, y13, y14]) (mk := lamMLaw0) (b := lamBLaw0) (d := CD) (spL := spLam2 (spLDo K CK CD XL)) (fun G1 o G2 => (dueD h s ps wd cv d = .inl o ∧ Ex G1 G2) ∨ (o = .fine ∧ ∃ s', dueD h s ps wd cv d = .inr s' ∧ ExK a pl G1 G2 ∧ KpAt K CK G2 a pl h s' (psD s ps wd))) (v1 := .ref a) (v2 := .ref dp) (v3 := .int 0) I5.tb (fun G6 g6 => ea_cons (ev_var (i := 3) (v := .ref a) rfl) (ea_cons (ev_var (i := 10) (v := .ref dp) rfl) (ea_cons ev_c ea_nil))) (fun G6 g6 t6 Q' E' hf _ hl' hc => ?_) (fun G6 G7 kp g6 t6 nkp hkp hΦ => ?_) (fun G6 o G7 kp G8 g6 t6 no hΦ e8 hp => ?_)
            · have I6 := I5.n g6 t6
              refine ⟨.ref a, .ref dp, .int 0, rfl, a, pl, dp, h, s, ps, wd, cv, nv, d, rfl, I6.k1, okS.ok, by omega, keep_t (keepN g6) hdp5, hcv, dp_keep (keepN g6) _ _ hfz hd5, hwd, (fun o ho => ?_), fun s' hs' G' x' hK' => hf _ G' (.inr ⟨rfl, s', hs', x', hK'⟩)⟩
              rcases due_out ho with ⟨c, rfl⟩ | ⟨n, rfl, hn, hr⟩
              · exact fun G' dd e' hdd => hl' c G' dd rfl (.inl ⟨ho, e'⟩) hdd
              · exact fun G' e' => hc n G' hn hr (.inl ⟨ho, e'⟩)
            · rcases hΦ with ⟨ho, _⟩ | ⟨_, s', hs', x7, hK7⟩
              · exact absurd rfl (res_ne (due_out ho)).1
              · have I6 := I5.n g6 t6
                rw [hs'] at hdue
                have kT := (keepN g6).trans (I6.k1.keepT x7)
                have nk1 : kp ≠ a ∧ kp ≠ pl := by
                  have k5 := I5.k1
                  obtain ⟨_, _, _, _, c1, c2, _⟩ := k5
                  exact ⟨fun z => nkp _ _ c1 z.symm, fun z => nkp _ _ c2 z.symm⟩
                refine hN3 _ _ ⟨kp, rfl, keep_t kT hdp5, dp_keep kT _ _ hfz hd5, .inr ⟨s', hs', x7 _ _ nk1.1 nk1.2 hkp, StAt.keep kT hdue, I6.x.kp x7 na1 np1, I6.k1.bagK I6.bg x7, I6.k1.tabs x7 I6.tb, I6.hA.keep (I6.k1.keepT x7), hK7, I6.k1.other I6.k2 naa npp x7, x7 _ _ (fun z => ?_) I6.n2 I6.hs, paired_imp I6.st fun _ _ z => z.keep (I6.k1.keepT x7)⟩⟩
                obtain ⟨_, _, _, _, c1, _⟩ := I6.k1
                have c2 := I6.hs
                rw [z, c1] at c2
                cases c2
            · rcases hΦ with ⟨ho, e7⟩ | ⟨z, _⟩
              · have I6 := ((I5.n g6 t6).ex e7).ex e8
                have kT := ((keepN g6).trans (KeepT.ex e7)).trans (KeepT.ex e8)
                rw [ho] at hdue
                have hdue' : DueAt K G8 dv (.inl o) := ⟨hdue.1, dp_ex e8 _ _ (dp_ex e7 _ _ (dp_n g6 _ _ hdue.2))⟩
                exact hN3 _ _ ⟨kp, rfl, keep_t kT hdp5, dp_keep kT _ _ hfz hd5, .inl ⟨o, ho, I6, hp, hdue'⟩⟩
              · exact absurd z no
          obtain ⟨kp, rfl, hdp6, hd6, hcase⟩ := hG
          have hne : EvT (tTest (tOp (rNeD K) (tVar 12) (tIf (tB (tCB (rIsi K) (tCons (tVar 11) (tCons (tC (.ty "list")) tNil)))) (tVar 11) (tLst tNil)))) [some (.ref sa), some (.ref b), some (.ref hva), some (.ref a), some (.ref a2), some (.ref sl), z6, some (.str wd), some nv, some cv, some (.ref dp), some dv, some (.ref kp), y13, y14] G' false := by
            rcases hcase with ⟨o, ho, I6, hkp, hdu⟩ | ⟨s', hs', hkp, hdu, _⟩
            · exact et_is (et_test (ev_op (ev_var (v := .ref kp) rfl) (ev_if (v := dv) (b := true) (et_is (et_B (ev_isiD (K := K) (ev_var (v := dv) rfl) ev_c hdu.2 (kit_lst hdu.2))) rfl) (fun _ => ev_var (v := dv) rfl) (fun z => by cases z)) (rv_neDp (K := K) (d := .list (dataO o)) (e := .list (dataO o)) (.lst (sq_of hkp) (res_dp hdu.1)) hdu.2 (res_shaped hdu.1) (res_shaped hdu.1)))) (by rw [res_eqv]; rfl)
            · have hdd : Dp K G' dv (encS s') := StAt.dp hdu
              refine et_test fun F1 f1 Q1 q1 => ⟨.ref kp, rfl, (et_is (et_B (ev_isiD (K := K) (ev_var (v := dv) (i := 11) rfl) ev_c hdd (kit_lst hdd))) (show isLstD (encS s') = false from rfl)) F1 f1 _ fun F2 f2 => ?_⟩
              rw [if_neg (by decide)]
              refine ⟨Nat.zero_le _, fun p np => ?_⟩
              have f3 := Ex.new (o := .lst []) np
              refine rv_neDp (K := K) (d := .list []) (e := .list []) (.lst (sq_of (((f1.trans f2).trans f3) _ _ hkp)) .nil) (.lst (sq_of upd_same) .nil) shaped_nilL shaped_nilL _ (Ex.refl _) _ fun F4 f4 => ?_
              rw [show PyData.eqv (.list []) (.list []) = true by decide +kernel]
              exact q1 F4 ((f2.trans f3).trans f4)
          refine q_when (σ := [some (.ref sa), some (.ref b), some (.ref hva), some (.ref a), some (.ref a2), some (.ref sl), z6, some (.str wd), some nv, some cv, some (.ref dp), some dv, some (.ref kp), y13, y14]) hne (fun hb => by cases hb) (fun _ G7 e7 => ?_)
          refine q_mid (fun σ' G' => ∃ (sl2 : Addr) (s2 : KSt) (ps2 : List KSt) (ss2 : List V), σ' = [some (.ref sa), some (.ref b), some (.ref hva), some (.ref a), some (.ref a2), some (.ref sl2), z6, some (.str wd), some nv, some cv, some (.ref dp), some dv, some (.ref kp), y13, y14] ∧ DInv K CK T H1 G' b a pl a2 pl2 sl2 (.ref hva) h s2 ps2 ss2 ∧ ps2.length ≤ i + 1) (fun σ' G8 hG => ?_) (fun N4 hN4 => ?_)
          · obtain ⟨sl2, s2, ps2, ss2, rfl, I9, hl9⟩ := hG
            obtain ⟨xs9, v9, q9, _, hst9⟩ := paired_snoc I9.st
            subst q9
            have ok9 := I9.ok s2 (by simp)
            have hA9 := I9.hA
            obtain ⟨hva9, hba9, hka9, e9, a9, _, _⟩ := hA9
            cases e9
            refine s_when (σ := [some (.ref sa), some (.ref b), some (.ref hva), some (.ref a), some (.ref a2), some (.ref sl2), z6, some (.str wd), some nv, some cv, some (.ref dp), some dv, some (.ref kp), y13, y14]) (b := false) (et_is (et_or (a := false) (et_is (et_not (et_B (ev_call (z := .bl true) (ea_cons (ev_var (v := .ref hva) (i := 2) rfl) (ea_cons (ev_var (v := .ref a) (i := 3) rfl) (ea_cons (ev_op (ev_var (v := .ref sl2) (i := 5) rfl) ev_neg1 (rv_ixL (K := K) (sq_of I9.hs) (at_m1 xs9 v9))) ea_nil))) fun F1 f1 Q1 q1 E1 => ⟨a, pl, .ref hva, v9, h, s2, ps2, rfl, I9.hA.keep (KeepT.ex f1), I9.k1.ex f1, hst9.keep (KeepT.ex f1), ok9, fun F2 f2 => q1 F2 f2⟩))) rfl) fun _ => et_or (a := false) (b := false) (et_is (et_not (et_test (ev_eqK (K := K) (CD := CD) (XL := XL) CL (i := 3) (j := 4) rfl rfl I9.k1 I9.k2 ho ok9.c ho ok9.c))) (by rw [decide_eq_true rfl, decide_eq_true rfl]; rfl)) fun _ => et_test (ev_eqH (K := K) (CD := CD) (XL := XL) CL (i := 3) (j := 2) rfl rfl I9.k1 a9 ho ok9.c)) rfl) (fun hb => by cases hb) (fun _ G10 e10 => ?_)
            exact ⟨sl2, s2, ps2, _, _, _, _, _, _, _, _, rfl, I9.ex e10, hl9⟩
          · rcases hcase with ⟨o, ho', I6, hkp, hdu⟩ | ⟨s', hs', hkp, hdu, jx, jb, jt, jA, jk1, jk2, jsl, jst⟩
            · refine s_when (σ := [some (.ref sa), some (.ref b), some (.ref hva), some (.ref a), some (.ref a2), some (.ref sl), z6, some (.str wd), some nv, some cv, some (.ref dp), some dv, some (.ref kp), y13, y14]) (b := false) (et_test fun F1 f1 Q1 q1 => ⟨.ref kp, rfl, Nat.zero_le _, fun p np => ?_⟩) (fun hb => by cases hb) (fun _ G8 e8 => hN4 _ _ ⟨sl, s, ps, _, rfl, (I6.ex e7).ex e8, by omega⟩)
              have f3 := Ex.new (o := .lst []) np
              refine rv_eqDp (K := K) (d := .list (dataO o)) (e := .list []) (.lst (sq_of (((e7.trans f1).trans f3) _ _ hkp)) (res_dp hdu.1)) (.lst (sq_of upd_same) .nil) (res_shaped hdu.1) shaped_nilL _ (Ex.refl _) _ fun F4 f4 => ?_
              rw [eqv_nilL, decide_eq_false (res_ne (due_out ho')).2]
              exact q1 F4 (f3.trans f4)
            · refine s_when (σ := [some (.ref sa), some (.ref b), some (.ref hva), some (.ref a), some (.ref a2), some (.ref sl), z6, some (.str wd), some nv, some cv, some (.ref dp), some dv, some (.ref kp), y13, y14]) (b := true) (et_test fun F1 f1 Q1 q1 => ⟨.ref kp, rfl, Nat.zero_le _, fun p np => ?_⟩) (fun _ G8 e8 => ?_) (fun hb => by cases hb)
              · have f3 := Ex.new (o := .lst []) np
                refine rv_eqDp (K := K) (d := .list []) (e := .list []) (.lst (sq_of (((e7.trans f1).trans f3) _ _ hkp)) .nil) (.lst (sq_of upd_same) .nil) shaped_nilL shaped_nilL _ (Ex.refl _) _ fun F4 f4 => ?_
                rw [show PyData.eqv (.list []) (.list []) = true by decide +kernel]
                exact q1 F4 (f3.trans f4)
              have E8 := e7.trans e8
              have jsl8 := E8 _ _ jsl
              have hdu8 : StAt K G8 dv s' := StAt.keep (KeepT.ex E8) hdu
              -- the states
              have hst2 : ∀ Q2 : VK, (∀ sl2 ss2 G9, G8 sl2 = none → Ex G8 G9 → G9 sl2 = some (.lst ss2) → Paired (StAt K G9) ss2 (psD s ps wd ++ [s']) → Q2 (.ref sl2) G9) → (tIf (tTest (tOp rEq (tVar 7) (tC (.str "back")))) (tSl (rSlL K) (tVar 5) tNoPart (tPart (tUn (rU fun i => .int (-i)) (tC (.int 1))))) (tOp rCat (tVar 5) (tLst (tCons (tVar 11) tNil)))) [some (.ref sa), some (.ref b), some (.ref hva), some (.ref a), some (.ref a2), some (.ref sl), z6, some (.str wd), some nv, some cv, some (.ref dp), some dv, some (.ref kp), y13, y14] G8 Q2 := fun Q2 q2 => by
                refine (et_is (et_test (ev_op (ev_var (v := .str wd) rfl) ev_c (rv_eq rfl))) dec_str) G8 (Ex.refl G8) _ fun F1 f1 => ?_
                by_cases hw : wd = "back"
                · rw [if_pos (decide_eq_true hw)]
                  refine ⟨.ref sl, rfl, 1, rfl, -1, rfl, sl, _, rfl, sq_of (f1 _ _ jsl8), fun p np => ?_⟩
                  have f2 := Ex.new (o := .lst (cutV (ss' ++ [V.ref st]) none (some (-1)))) np
                  refine q2 p _ _ (fresh_back f1 np) (f1.trans f2) upd_same ?_
                  rw [cut_m1] at f2 ⊢
                  have hps : psD s ps wd ++ [s'] = ps := by
                    have hs2 := hs'
                    unfold dueD at hs2
                    rw [if_pos hw] at hs2
                    unfold psD
                    rw [if_pos hw]
                    rcases List.eq_nil_or_concat ps with rfl | ⟨p', t', rfl⟩
                    · cases hs2
                    · rw [List.concat_eq_append] at hs2 ⊢
                      rw [List.getLast?_append] at hs2
                      cases hs2
                      rw [List.dropLast_append_of_ne_nil (by simp)]
                      simp
                  rw [hps]
                  obtain ⟨xs1, v1, q1, q3, _⟩ := paired_snoc jst
                  have : xs1 = ss' := (List.append_inj' q1 rfl).1.symm
                  subst this
                  exact paired_imp q3 fun _ _ z => z.keep (KeepT.ex ((E8.trans f1).trans f2))
                · rw [if_neg (by rw [decide_eq_false hw]; decide)]
                  refine ⟨.ref sl, rfl, dv, rfl, by show 1 ≤ sizeLine; decide, fun p np => ?_⟩
                  have f2 := Ex.new (o := .lst [dv]) np
                  have hsl : (ss' ++ [V.ref st]).length = ps.length + 1 := by rw [paired_len jst]; simp
                  refine ⟨sl, p, _, _, rfl, rfl, (f1.trans f2) _ _ jsl8, upd_same, sz_of (by rw [hsl]; show ps.length + 1 + 1 ≤ _; omega), fun r nr => ?_⟩
                  have f3 := Ex.new (o := .lst (ss' ++ [V.ref st] ++ [dv])) nr
                  have E9 := (f1.trans f2).trans f3
                  refine q2 r _ _ (fresh_back (f1.trans f2) nr) E9 upd_same ?_
                  have hps : psD s ps wd = ps ++ [s] := psD_on hw
                  rw [hps]
                  exact paired_app (paired_imp jst fun _ _ z => z.keep (KeepT.ex (E8.trans E9))) (hdu8.keep (KeepT.ex E9))
              refine q_asgV (σ := [some (.ref sa), some (.ref b), some (.ref hva), some (.ref a), some (.ref a2), some (.ref sl), z6, some (.str wd), some nv, some cv, some (.ref dp), some dv, some (.ref kp), y13, y14]) (hst2 _ fun sl2 ss2 G9 nsl2 e9 hsl2 hst2' => ?_)
              have E9 := E8.trans e9
              have jk29 := jk2.ex E9
              have jk19 := jk1.ex E9
              have jb9 := jb.ex E9
              have jA9 := jA.keep (KeepT.ex E9)
              have nn : sl2 ≠ b ∧ sl2 ≠ pl ∧ sl2 ≠ pl2 ∧ sl2 ≠ a2 := by
                obtain ⟨_, _, _, _, c1, c2, _⟩ := jk1.ex E8
                obtain ⟨_, _, _, _, c3, c4, _⟩ := jk2.ex E8
                obtain ⟨_, _, _, c5, _⟩ := jb.ex E8
                exact ⟨(fun z => by rw [z, c5] at nsl2; cases nsl2), (fun z => by rw [z, c2] at nsl2; cases nsl2), (fun z => by rw [z, c4] at nsl2; cases nsl2), fun z => by rw [z, c3] at nsl2; cases nsl2⟩
              refine ⟨.ref a2, rfl, .ref dp, rfl, a2, pl2, dp, h, s, ps, wd, cv, nv, d, rfl, jk29, okS.ok, by omega, ex_t E9 hdp6, hcv, dp_ex E9 _ _ hd6, hwd, (fun o ho => by rw [hs'] at ho; cases ho), fun s'' hs'' G10 x10 hK10 => ?_⟩
              rw [hs'] at hs''
              cases hs''
              refine hN4 _ _ ⟨sl2, s', psD s ps wd, ss2, rfl, ⟨(jx.trans (XB.ex E9)).kp x10 na2 np2, jk29.bagK jb9 x10, jk29.tabs x10 (jt.ext E9), jA9.keep (jk29.keepT x10), jk29.other jk19 (Ne.symm naa) (Ne.symm npp) x10, hK10, x10 _ _ nn.2.2.2 nn.2.2.1 hsl2, paired_imp hst2' fun _ _ z => z.keep (jk29.keepT x10), due_ok I.ok hs', nn.1, nn.2.1, nn.2.2.1, due_head I.hd hs'⟩, ?_⟩
              unfold psD
              split
              · rw [List.length_dropLast]; omega
              · rw [List.length_append]; show ps.length + 1 ≤ _; omega
        · obtain ⟨sl, s, ps, ss, y6, y7, y8, y9, y10, y11, y12, rfl, I, hpl⟩ := hP
          exact hN' _ _ ⟨sl, s, ps, ss, y6, y7, y8, y9, y10, y11, y12, rfl, I, by omega⟩
      obtain ⟨sl, s, ps, ss, y6, y7, y8, y9, y10, y11, y12, rfl, I, hpl⟩ := hG
      have okS := I.ok s (by simp)
      have ok0 : SOk h (st0 h) := SOk.st0 ho hnm
      have hsn : ss.length = ps.length + 1 := by rw [paired_len I.st]; simp
      -- back to the beginning
      refine q_mid (fun σ' G' => ∃ z6, σ' = [some (.ref sa), some (.ref b), some (.ref hva), some (.ref a), some (.ref a2), some (.ref sl), z6, y7, y8, y9, y10, y11, y12, y13, y14] ∧ XB b H1 G' ∧ Bag G' b ∧ Tabs T G' ∧ HouseAt K G' (.ref hva) h ∧ KpAt K CK G' a pl h (st0 h) [] ∧ KpAt K CK G' a2 pl2 h s ps ∧ G' sl = some (.lst ss) ∧ Paired (StAt K G') ss (ps ++ [s])) (fun σ' G' hG => ?_) (fun N5 hN5 => ?_)
      rotate_left
      · refine (ev_op (ev_len (K := K) (σ := [some (.ref sa), some (.ref b), some (.ref hva), some (.ref a), some (.ref a2), some (.ref sl), y6, y7, y8, y9, y10, y11, y12, y13, y14]) (ev_var (v := .ref sl) (i := 5) rfl) (sq_of I.hs)) ev_c rv_I0) G (Ex.refl G) _ fun G1 g1 => ⟨_, rfl, by omega, by omega, ?_⟩
        have hnn : ((ss.length : Int) - 1).toNat = ps.length := by omega
        refine for_range (lo := 0) (n := ((ss.length : Int) - 1).toNat) (fun i σ' G' => ∃ z6, σ' = [some (.ref sa), some (.ref b), some (.ref hva), some (.ref a), some (.ref a2), some (.ref sl), z6, y7, y8, y9, y10, y11, y12, y13, y14] ∧ XB b H1 G' ∧ Bag G' b ∧ Tabs T G' ∧ HouseAt K G' (.ref hva) h ∧ KpAt K CK G' a2 pl2 h s ps ∧ G' sl = some (.lst ss) ∧ Paired (StAt K G') ss (ps ++ [s]) ∧ ∃ (s1 : KSt) (ps1 rest : List KSt), KpAt K CK G' a pl h s1 ps1 ∧ ps ++ [s] = (ps1 ++ [s1]) ++ rest ∧ rest.length = i) ?_ (fun i σ' G' hi hP => ?_) (fun σ' G' hP => ?_)
        · have I1 := I.ex g1
          exact ⟨y6, rfl, I1.x, I1.bg, I1.tb, I1.hA, I1.k2, I1.hs, I1.st, s, ps, [], I1.k1, by simp, rfl⟩
        · obtain ⟨z6, rfl, jx, jb, jt, jA, jk2, jsl, jst, s1, ps1, rest, jk1, eq1, er⟩ := hP
          have hlen : ps1.length + 1 + rest.length = ps.length + 1 := by
            have := congrArg List.length eq1
            simp at this
            omega
          have jk1' := jk1
          obtain ⟨dx, hw, sw, pws, c1, c2, _⟩ := jk1'
          refine ⟨.ref a, rfl, a, dx, _, rfl, c1, rfl, a, pl, h, s1, ps1, rfl, jk1, (fun z => ?_), fun ps' s' e' G2 x2 hK2 => ?_⟩
          · rw [z] at hlen
            simp at hlen
            omega
          · have nsa : sl ≠ a := fun z => by
              rw [z, c1] at jsl
              cases jsl
            refine ⟨_, rfl, jx.kp x2 na1 np1, jk1.bagK jb x2, jk1.tabs x2 jt, jA.keep (jk1.keepT x2), jk1.other jk2 naa npp x2, x2 _ _ nsa I.n2 jsl, paired_imp jst fun _ _ z => z.keep (jk1.keepT x2), s', ps', s1 :: rest, hK2, ?_, by rw [List.length_cons, er]⟩
            rw [eq1, e']
            simp
        · obtain ⟨z6, rfl, jx, jb, jt, jA, jk2, jsl, jst, s1, ps1, rest, jk1, eq1, er⟩ := hP
          have hlen : ps1.length + 1 + rest.length = ps.length + 1 := by
            have := congrArg List.length eq1
            simp at this
            omega
          have h0 : ps1 = [] := List.length_eq_zero_iff.mp (by omega)
          subst h0
          have hh := I.hd
          rw [eq1] at hh
          have hs1 : s1 = st0 h := by simpa using hh
          rw [hs1] at jk1
          exact hN5 _ _ ⟨z6, rfl, jx, jb, jt, jA, jk1, jk2, jsl, jst⟩
      obtain ⟨z6, rfl, jx, jb, jt, jA, jk1, jk2, jsl, jst⟩ := hG
      obtain ⟨xs9, v9, q9, _, hst9⟩ := paired_snoc jst
      obtain ⟨v0, hv0, hst0⟩ : ∃ v0, ss[0]? = some v0 ∧ StAt K G' v0 (st0 h) := by
        have hh := I.hd
        rw [List.head?_eq_getElem?] at hh
        exact paired_get2 jst hh
      have jk1' := jk1
      obtain ⟨dx, hw, sw, pws, c1, c2, _⟩ := jk1'
      have tA : EvT (tNot (tTest (tOp (KwX.rEqI K CK (spKpE K CK CD XL) E0) (tVar 3) (tMake CK (spKpI K CK CD XL) [] E0 (tCons (tVar 2) tNil))))) [some (.ref sa), some (.ref b), some (.ref hva), some (.ref a), some (.ref a2), some (.ref sl), z6, y7, y8, y9, y10, y11, y12, y13, y14] G' false := et_is (et_not (a := true) (et_test fun F1 f1 Q1 q1 => ⟨.ref a, rfl, mk_kept (K := K) (CD := CD) (XL := XL) (i := 2) rfl (jA.keep (KeepT.ex f1)) ho fun a3 pl3 F2 f2 _ _ hK3 => ?_⟩)) rfl
      rotate_left
      · have hK3' := hK3
        obtain ⟨dy, hw3, sw3, pws3, c3, _⟩ := hK3'
        refine ⟨a, dx, _, .ref CK, rfl, (f1.trans f2) _ _ c1, .base (.ins c3 CL.c CL.ca CL.cn CL.ct CL.cm), CL.nk, a, pl, h, st0 h, [], .ref a3, rfl, jk1.ex (f1.trans f2), ho, ok0.c, .inl ⟨a3, pl3, h, st0 h, [], rfl, hK3, ho, ok0.c, fun F3 f3 => ?_⟩⟩
        rw [decide_eq_true rfl, decide_eq_true rfl]
        exact q1 F3 (f2.trans f3)
      have tB : EvT (tTest (tOp rNe (tOp (KwX.rEqI K CK (spKpE K CK CD XL) E0) (tVar 3) (tVar 4)) (tOp (rEqD K) (tOp (rIxL K) (tVar 5) (tC (.int 0))) (tOp (rIxL K) (tVar 5) (tUn (rU fun i => .int (-i)) (tC (.int 1))))))) [some (.ref sa), some (.ref b), some (.ref hva), some (.ref a), some (.ref a2), some (.ref sl), z6, y7, y8, y9, y10, y11, y12, y13, y14] G' false := by
        refine et_is (et_test (ev_op (ev_eqK (K := K) (CD := CD) (XL := XL) CL (i := 3) (j := 4) rfl rfl jk1 jk2 ho ok0.c ho okS.c) (ev_op (ev_op (ev_var (v := .ref sl) (i := 5) rfl) ev_c (rv_ixL (K := K) (sq_of jsl) (atI_nat (j := 0) hv0))) (ev_op (ev_var (v := .ref sl) (i := 5) rfl) ev_neg1 (rv_ixL (K := K) (sq_of jsl) (by rw [q9]; exact at_m1 xs9 v9))) (rv_eqDp (K := K) hst0.dp hst9.dp ((shp_st ok0.c).ok (by decide)) ((shp_st okS.c).ok (by decide)))) (rv_ne rfl))) ?_
        rw [eqE_st, decide_eq_true rfl, Bool.true_and, decide_eq_true rfl]
        rfl
      refine q_when (σ := [some (.ref sa), some (.ref b), some (.ref hva), some (.ref a), some (.ref a2), some (.ref sl), z6, y7, y8, y9, y10, y11, y12, y13, y14]) (b := false) (et_is (et_or (a := false) (b := false) tA fun _ => tB) rfl) (fun hb => by cases hb) (fun _ G1 e1 => ?_)
      have hA' := jA.keep (KeepT.ex e1)
      obtain ⟨hva', hba', hka', e', a1, ⟨bvs, ab1, ab2⟩, a3⟩ := hA'
      cases e'
      have hbl := paired_len ab2
      have hbx : boxN h.1.length (.int (h.1.length : Int)) = none := by
        cases e : boxN h.1.length (.int (h.1.length : Int)) with
        | none => rfl
        | some i =>
          have := boxN_some e
          have h2 : (h.1.length : Int) = (i : Int) := by injection this.2
          omega
      -- no such box
      refine q_refG (K := K) (T := T) (mk := lamMLaw1) (b := lamBLaw1) (d := CD) (spL := spLamM CK "inside" (spKpD K CK CD XL)) (σ := [some (.ref sa), some (.ref b), some (.ref hva), some (.ref a), some (.ref a2), some (.ref sl), z6, y7, y8, y9, y10, y11, y12, y13, y14]) (.cls 6) (by show 6 < 14; decide) (v1 := .ref a) (v2 := vN h.1.length) (v3 := .int 0) (jt.ext e1) (fun F1 f1 => ea_cons (ev_var (i := 3) (v := .ref a) rfl) (ea_cons (by have := ev_lenT (K := K) (σ := [some (.ref sa), some (.ref b), some (.ref hva), some (.ref a), some (.ref a2), some (.ref sl), z6, y7, y8, y9, y10, y11, y12, y13, y14]) (ev_op (ev_var (v := .ref hva) (i := 2) rfl) ev_c (rv_ixT (K := K) (keep_t (keepN f1) a1) at0)) (keep_t (keepN f1) ab1); rw [hbl] at this; exact this) (ea_cons ev_c ea_nil))) (fun F1 => ed_lst (K := K) (da_cons ed_str (da_cons ed_bl da_nil)) (by show 2 ≤ 1000; decide)) (fun F1 f1 Q' E' hf _ _ hc => ?_) (fun G2 e2 T2 => ?_)
      · have hK5 := (jk1.ex e1).n f1
        have hK5' := hK5
        obtain ⟨dx5, hw5, sw5, pw5, d1, _⟩ := hK5'
        exact ⟨.ref a, vN h.1.length, .int 0, rfl, a, dx5, _, rfl, d1, rfl, a, pl, h, st0 h, [], vN h.1.length, .int h.1.length, rfl, hK5, ok0.ok.ll, .int _, (fun _ F2 f2 => hc 6 F2 (by decide) rfl ⟨rfl, f2⟩), fun i hi => by rw [hbx] at hi; cases hi⟩
      have hA2 := (jA.keep (KeepT.ex e1)).keep (keepN e2)
      obtain ⟨hva2, hba2, hka2, e', b1, hB2, b3⟩ := hA2
      cases e'
      -- no such house
      have X2 := (jx.trans (XB.ex e1)).trans (XB.n e2)
      have B2 := (jb.ex e1).n e2
      refine ⟨T2, fun f c' F1 eN nn T1 nf hf hc => ⟨.ref hva, rfl, hva, _, 0, .ref hba2, rfl, rfl, keep_t (keepN eN) b1, at0, by show 2 ≤ sizeLine; decide, fun p np => ⟨by show 2 ≤ sizeLine; decide, fun r nr => ?_⟩⟩⟩
      have f2 := Ex.new (o := .tup [.str "b", .str "a"]) np
      have f3 := Ex.new (o := .tup [.ref hba2, .ref p]) nr
      have F3 := f2.trans f3
      have hH : HouseAt K (upd (upd F1 p (.tup [.str "b", .str "a"])) r (.tup [.ref hba2, .ref p])) (.ref r) (h.1, ["b", "a"]) := ⟨r, hba2, p, rfl, st_of upd_same, (hB2.keep (keepN eN)).keep (KeepT.ex F3), st_of (f3 _ _ upd_same)⟩
      refine ⟨f, c', .ref r, .int 0, .int 0, fun G => OnlyO (.cls 0) G, rfl, F3 _ _ hf, F3 _ _ hc, fun F4 e4 Q' E' hf' _ _ hc' => ?_, fun F4 F5 kp e4 nk hk hO => ?_, fun F4 o F5 kp F6 e4 no hO np' e6 hp => ?_⟩
      · refine ⟨.ref r, .int 0, .int 0, rfl, fun o dx no nd ne => ?_⟩
        have k1 := Ex.new (o := .own o) nd
        have nx' : upd F4 dx (.own o) o = none := by rw [upd_ne (Ne.symm ne)]; exact no
        have k2 := k1.trans (Ex.new (o := .ins CK dx []) nx')
        exact ⟨o, dx, .ref r, encH (h.1, ["b", "a"]), rfl, upd_same, dp_house ((hH.keep (KeepT.ex e4)).keep (KeepT.ex k2)), stB_ba ho, (fun _ F5 f5 => hc' 0 F5 (by decide) rfl ⟨rfl, k2.trans f5⟩), fun z => by rw [no_ba] at z; cases z⟩
      · cases hO.1
      · obtain ⟨rfl, e5⟩ := hO
        have eA := ((F3.trans e4).trans e5).trans e6
        refine (ed_lst (K := K) (σ := [some (.ref sa), some (.ref b), some (.ref hva), some (.ref a), some (.ref a2), some (.ref sl), z6, y7, y8, y9, y10, y11, y12, y13, y14]) (da_cons ed_str (da_cons ed_bl da_nil)) (by show 2 ≤ 1000; decide)) F6 (Ex.refl F6) _ fun u F7 e7 hu => ?_
        refine rv_neDp (K := K) (d := .list (dataO (.cls 0))) (e := .list (dataO (.cls 0))) (.lst (sq_of (e7 _ _ hp)) (res_dp (o := .cls 0) (by show 0 < 14; decide))) hu (res_shaped (o := .cls 0) (by show 0 < 14; decide)) (res_shaped (o := .cls 0) (by show 0 < 14; decide)) _ (Ex.refl _) _ fun F8 e8 => ⟨_, rfl, ?_⟩
        rw [res_eqv]
        have eB := (eA.trans e7).trans e8
        exact nx _ _ ⟨_, rfl, rfl⟩ ((X2.trans (XB.n eN)).trans (XB.ex eB)) ((B2.n eN).ex eB) (T1.ext eB)
    · exact q H1
end
end Kw
set_option Elab.async false
set_option linter.all false
set_option maxRecDepth 100000
namespace Kw
open PySem PySem.Spec PyProof.Rows L2 KwX NdefX LamX
abbrev lamQ_Law : Str := ("law" : Str) ++ ".<locals>." ++ "<lambda>"
set_option maxHeartbeats 4000000 in
theorem all_mk {l : PySem.W.OpenLaw} {w : World} {K : PySem.W.Frag} {h : Heap} {mg : Str → Option Value} {fa f1 f2 f3 f4 f5 f6 f7 f8 f9 f10 f11 f12 f13 f14 f15 f16 f17 f18 f19 f20 f21 f22 f23 f24 f25 f26 f27 f28 f29 f30 f31 c_Law Pt_Law dT dL dB d0 d1 d2 d3 d4 d5 d6 d7 d8 d9 d10 d11 d12 d13 : Addr} (X : K.In h) (G : h.Ns mainGlobals mg) (hfa : mg "law" = some (.ref fa))
    (tab_Law : h.get? Pt_Law = some { cls := .none, data := .fields #[] })
    {od1 an1 od2 an2 od3 an3 od4 an4 od5 an5 od6 an6 od7 an7 od8 an8 od9 an9 od10 an10 od11 an11 od12 an12 od13 an13 od14 an14 od15 an15 od16 an16 od17 an17 od18 an18 od19 an19 od20 an20 od21 an21 od22 an22 od23 an23 od24 an24 od25 an25 od26 an26 od27 an27 od28 an28 od29 an29 od30 an30 od31 an31 : Option Addr} {sl1 sl2 sl3 sl4 sl5 sl6 sl7 sl8 sl9 sl10 sl11 sl12 sl13 sl14 sl15 sl16 sl17 sl18 sl19 sl20 sl21 sl22 sl23 sl24 sl25 sl26 sl27 sl28 sl29 sl30 sl31 : Array (Option Value)} {oc1 kV1 dc1 pm1 ct1 cd1 oc2 kV2 dc2 pm2 ct2 cd2 oc3 kV3 dc3 pm3 ct3 cd3 oc4 kV4 dc4 pm4 ct4 cd4 oc5 kV5 dc5 pm5 ct5 cd5 oc6 kV6 dc6 pm6 ct6 cd6 oc7 kV7 dc7 pm7 ct7 cd7 oc8 kV8 dc8 pm8 ct8 cd8 oc9 kV9 dc9 pm9 ct9 cd9 oc10 kV10 dc10 pm10 ct10 cd10 oc11 kV11 dc11 pm11 ct11 cd11 oc12 kV12 dc12 pm12 ct12 cd12 oc13 kV13 dc13 pm13 ct13 cd13 oc14 kV14 dc14 pm14 ct14 cd14 oc15 kV15 dc15 pm15 ct15 cd15 oc16 kV16 dc16 pm16 ct16 cd16 oc17 kV17 dc17 pm17 ct17 cd17 oc18 kV18 dc18 pm18 ct18 cd18 oc19 kV19 dc19 pm19 ct19 cd19 oc20 kV20 dc20 pm20 ct20 cd20 oc21 kV21 dc21 pm21 ct21 cd21 oc22 kV22 dc22 pm22 ct22 cd22 oc23 kV23 dc23 pm23 ct23 cd23 oc24 kV24 dc24 pm24 ct24 cd24 oc25 kV25 dc25 pm25 ct25 cd25 oc26 kV26 dc26 pm26 ct26 cd26 oc27 kV27 dc27 pm27 ct27 cd27 oc28 kV28 dc28 pm28 ct28 cd28 oc29 kV29 dc29 pm29 ct29 cd29 oc30 kV30 dc30 pm30 ct30 cd30 oc31 kV31 dc31 pm31 ct31 : Value} {t_MOST_LETTERS t_SMALL_LETTERS t_MOST_BOXES t_MOST_LOCKS t_MOST_KEYS : Tok} {tod_Law : Option Addr} {tvs_Law : Array Value} {tsl_Law : Array (Option Value)}
    {xn_Locked xq_Locked : Str} {xN_Locked fI_Locked : Addr} {xbs_Locked xbm_Locked xsub_Locked : List Value} {xsn_Locked : List Str} {xab_Locked : Bool} {xcol_Locked : Option Bool} {xdd_Locked : Option Addr} {xk0_Locked xk1_Locked xk2_Locked xk3_Locked xk5_Locked : Option Value} {ioc_Locked ikV_Locked idc_Locked ipm_Locked icd_Locked ict_Locked : Value} {iod_Locked ian_Locked : Option Addr} {isl_Locked : Array (Option Value)} {CK : Addr} {fK_KpI : Addr} {koc_KpI kkV_KpI kdc_KpI kpm_KpI kcd_KpI kct_KpI : Value} {kod_KpI kan_KpI : Option Addr} {ksl_KpI : Array (Option Value)} {fK_KpE : Addr} {koc_KpE kkV_KpE kdc_KpE kpm_KpE kcd_KpE kct_KpE : Value} {kod_KpE kan_KpE : Option Addr} {ksl_KpE : Array (Option Value)} {fK_KpR : Addr} {koc_KpR kkV_KpR kdc_KpR kpm_KpR kcd_KpR kct_KpR : Value} {kod_KpR kan_KpR : Option Addr} {ksl_KpR : Array (Option Value)} {fK_KpC : Addr} {koc_KpC kkV_KpC kdc_KpC kpm_KpC kcd_KpC kct_KpC : Value} {kod_KpC kan_KpC : Option Addr} {ksl_KpC : Array (Option Value)} {fK_KpP : Addr} {koc_KpP kkV_KpP kdc_KpP kpm_KpP kcd_KpP kct_KpP : Value} {kod_KpP kan_KpP : Option Addr} {ksl_KpP : Array (Option Value)} {fK_KpU : Addr} {koc_KpU kkV_KpU kdc_KpU kpm_KpU kcd_KpU kct_KpU : Value} {kod_KpU kan_KpU : Option Addr} {ksl_KpU : Array (Option Value)} {fK_KpN : Addr} {koc_KpN kkV_KpN kdc_KpN kpm_KpN kcd_KpN kct_KpN : Value} {kod_KpN kan_KpN : Option Addr} {ksl_KpN : Array (Option Value)} {fK_KpK : Addr} {koc_KpK kkV_KpK kdc_KpK kpm_KpK kcd_KpK kct_KpK : Value} {kod_KpK kan_KpK : Option Addr} {ksl_KpK : Array (Option Value)} {fK_KpH : Addr} {koc_KpH kkV_KpH kdc_KpH kpm_KpH kcd_KpH kct_KpH : Value} {kod_KpH kan_KpH : Option Addr} {ksl_KpH : Array (Option Value)} {fK_KpD : Addr} {koc_KpD kkV_KpD kdc_KpD kpm_KpD kcd_KpD kct_KpD : Value} {kod_KpD kan_KpD : Option Addr} {ksl_KpD : Array (Option Value)} {fK_KpG : Addr} {koc_KpG kkV_KpG kdc_KpG kpm_KpG kcd_KpG kct_KpG : Value} {kod_KpG kan_KpG : Option Addr} {ksl_KpG : Array (Option Value)} {fK_KpF : Addr} {koc_KpF kkV_KpF kdc_KpF kpm_KpF kcd_KpF kct_KpF : Value} {kod_KpF kan_KpF : Option Addr} {ksl_KpF : Array (Option Value)} {fK_KpO : Addr} {koc_KpO kkV_KpO kdc_KpO kpm_KpO kcd_KpO kct_KpO : Value} {kod_KpO kan_KpO : Option Addr} {ksl_KpO : Array (Option Value)} {fK_KpB : Addr} {koc_KpB kkV_KpB kdc_KpB kpm_KpB kcd_KpB kct_KpB : Value} {kod_KpB kan_KpB : Option Addr} {ksl_KpB : Array (Option Value)} {fK_KpV : Addr} {koc_KpV kkV_KpV kdc_KpV kpm_KpV kcd_KpV kct_KpV : Value} {kod_KpV kan_KpV : Option Addr} {ksl_KpV : Array (Option Value)} {fK_KpS : Addr} {koc_KpS kkV_KpS kdc_KpS kpm_KpS kcd_KpS kct_KpS : Value} {kod_KpS kan_KpS : Option Addr} {ksl_KpS : Array (Option Value)} {fK_KpT : Addr} {koc_KpT kkV_KpT kdc_KpT kpm_KpT kcd_KpT kct_KpT : Value} {kod_KpT kan_KpT : Option Addr} {ksl_KpT : Array (Option Value)} {fK_KpY : Addr} {koc_KpY kkV_KpY kdc_KpY kpm_KpY kcd_KpY kct_KpY : Value} {kod_KpY kan_KpY : Option Addr} {ksl_KpY : Array (Option Value)} {fK_KpL : Addr} {koc_KpL kkV_KpL kdc_KpL kpm_KpL kcd_KpL kct_KpL : Value} {kod_KpL kan_KpL : Option Addr} {ksl_KpL : Array (Option Value)} {fK_KpA : Addr} {koc_KpA kkV_KpA kdc_KpA kpm_KpA kcd_KpA kct_KpA : Value} {kod_KpA kan_KpA : Option Addr} {ksl_KpA : Array (Option Value)}
    (a1 : PySem.W.nsIn K mainGlobals "_law_cell_at" = some (some (.ref f1)))
    (l1 : K.lookup f1 = some ⟨oc1, od1, .func (PySem.W.fnOf "_law_cell_at" "_law_cell_at" (defArgs sCell) (defBody sCell) (defScope sCell) .none kV1 dc1 pm1 an1 cd1 ct1), sl1⟩)
    (c1 : PySem.W.codeIn K cd1 "_law_cell_at" = true)
    (k1 : PySem.W.keepIn K (.ref f1) = true)
    (a2 : PySem.W.nsIn K mainGlobals "_law_draws" = some (some (.ref f2)))
    (l2 : K.lookup f2 = some ⟨oc2, od2, .func (PySem.W.fnOf "_law_draws" "_law_draws" (defArgs sDraw) (defBody sDraw) (defScope sDraw) .none kV2 dc2 pm2 an2 cd2 ct2), sl2⟩)
    (c2 : PySem.W.codeIn K cd2 "_law_draws" = true)
    (k2 : PySem.W.keepIn K (.ref f2) = true)
    (a3 : PySem.W.nsIn K mainGlobals "_law_bag" = some (some (.ref f3)))
    (l3 : K.lookup f3 = some ⟨oc3, od3, .func (PySem.W.fnOf "_law_bag" "_law_bag" (defArgs sBag) (defBody sBag) (defScope sBag) .none kV3 dc3 pm3 an3 cd3 ct3), sl3⟩)
    (c3 : PySem.W.codeIn K cd3 "_law_bag" = true)
    (k3 : PySem.W.keepIn K (.ref f3) = true)
    (a4 : PySem.W.nsIn K mainGlobals "_law_bags" = some (some (.ref f4)))
    (l4 : K.lookup f4 = some ⟨oc4, od4, .func (PySem.W.fnOf "_law_bags" "_law_bags" (defArgs sBags) (defBody sBags) (defScope sBags) .none kV4 dc4 pm4 an4 cd4 ct4), sl4⟩)
    (c4 : PySem.W.codeIn K cd4 "_law_bags" = true)
    (k4 : PySem.W.keepIn K (.ref f4) = true)
    (a5 : PySem.W.nsIn K mainGlobals "_law_take" = some (some (.ref f5)))
    (l5 : K.lookup f5 = some ⟨oc5, od5, .func (PySem.W.fnOf "_law_take" "_law_take" (defArgs sTake) (defBody sTake) (defScope sTake) .none kV5 dc5 pm5 an5 cd5 ct5), sl5⟩)
    (c5 : PySem.W.codeIn K cd5 "_law_take" = true)
    (k5 : PySem.W.keepIn K (.ref f5) = true)
    (a6 : PySem.W.nsIn K mainGlobals "_law_some" = some (some (.ref f6)))
    (l6 : K.lookup f6 = some ⟨oc6, od6, .func (PySem.W.fnOf "_law_some" "_law_some" (defArgs sSome) (defBody sSome) (defScope sSome) .none kV6 dc6 pm6 an6 cd6 ct6), sl6⟩)
    (c6 : PySem.W.codeIn K cd6 "_law_some" = true)
    (k6 : PySem.W.keepIn K (.ref f6) = true)
    (a7 : PySem.W.nsIn K mainGlobals "_law_house" = some (some (.ref f7)))
    (l7 : K.lookup f7 = some ⟨oc7, od7, .func (PySem.W.fnOf "_law_house" "_law_house" (defArgs sHouse) (defBody sHouse) (defScope sHouse) .none kV7 dc7 pm7 an7 cd7 ct7), sl7⟩)
    (c7 : PySem.W.codeIn K cd7 "_law_house" = true)
    (k7 : PySem.W.keepIn K (.ref f7) = true)
    (a8 : PySem.W.nsIn K mainGlobals "_law_from" = some (some (.ref f8)))
    (l8 : K.lookup f8 = some ⟨oc8, od8, .func (PySem.W.fnOf "_law_from" "_law_from" (defArgs sLFr) (defBody sLFr) (defScope sLFr) .none kV8 dc8 pm8 an8 cd8 ct8), sl8⟩)
    (c8 : PySem.W.codeIn K cd8 "_law_from" = true)
    (k8 : PySem.W.keepIn K (.ref f8) = true)
    (a9 : PySem.W.nsIn K mainGlobals "_law_changed" = some (some (.ref f9)))
    (l9 : K.lookup f9 = some ⟨oc9, od9, .func (PySem.W.fnOf "_law_changed" "_law_changed" (defArgs sLCg) (defBody sLCg) (defScope sLCg) .none kV9 dc9 pm9 an9 cd9 ct9), sl9⟩)
    (c9 : PySem.W.codeIn K cd9 "_law_changed" = true)
    (k9 : PySem.W.keepIn K (.ref f9) = true)
    (a10 : PySem.W.nsIn K mainGlobals "_law_laid_by" = some (some (.ref f10)))
    (l10 : K.lookup f10 = some ⟨oc10, od10, .func (PySem.W.fnOf "_law_laid_by" "_law_laid_by" (defArgs sLLb) (defBody sLLb) (defScope sLLb) .none kV10 dc10 pm10 an10 cd10 ct10), sl10⟩)
    (c10 : PySem.W.codeIn K cd10 "_law_laid_by" = true)
    (k10 : PySem.W.keepIn K (.ref f10) = true)
    (a11 : PySem.W.nsIn K mainGlobals "_law_opened" = some (some (.ref f11)))
    (l11 : K.lookup f11 = some ⟨oc11, od11, .func (PySem.W.fnOf "_law_opened" "_law_opened" (defArgs sLOp) (defBody sLOp) (defScope sLOp) .none kV11 dc11 pm11 an11 cd11 ct11), sl11⟩)
    (c11 : PySem.W.codeIn K cd11 "_law_opened" = true)
    (k11 : PySem.W.keepIn K (.ref f11) = true)
    (a12 : PySem.W.nsIn K mainGlobals "_law_after" = some (some (.ref f12)))
    (l12 : K.lookup f12 = some ⟨oc12, od12, .func (PySem.W.fnOf "_law_after" "_law_after" (defArgs sLAf) (defBody sLAf) (defScope sLAf) .none kV12 dc12 pm12 an12 cd12 ct12), sl12⟩)
    (c12 : PySem.W.codeIn K cd12 "_law_after" = true)
    (k12 : PySem.W.keepIn K (.ref f12) = true)
    (a13 : PySem.W.nsIn K mainGlobals "_law_do" = some (some (.ref f13)))
    (l13 : K.lookup f13 = some ⟨oc13, od13, .func (PySem.W.fnOf "_law_do" "_law_do" (defArgs sLDo) (defBody sLDo) (defScope sLDo) .none kV13 dc13 pm13 an13 cd13 ct13), sl13⟩)
    (c13 : PySem.W.codeIn K cd13 "_law_do" = true)
    (k13 : PySem.W.keepIn K (.ref f13) = true)
    (a14 : PySem.W.nsIn K mainGlobals "_law_rounds" = some (some (.ref f14)))
    (l14 : K.lookup f14 = some ⟨oc14, od14, .func (PySem.W.fnOf "_law_rounds" "_law_rounds" (defArgs sLR) (defBody sLR) (defScope sLR) .none kV14 dc14 pm14 an14 cd14 ct14), sl14⟩)
    (c14 : PySem.W.codeIn K cd14 "_law_rounds" = true)
    (k14 : PySem.W.keepIn K (.ref f14) = true)
    (a15 : PySem.W.nsIn K mainGlobals "_law_stands" = some (some (.ref f15)))
    (l15 : K.lookup f15 = some ⟨oc15, od15, .func (PySem.W.fnOf "_law_stands" "_law_stands" (defArgs sLSt) (defBody sLSt) (defScope sLSt) .none kV15 dc15 pm15 an15 cd15 ct15), sl15⟩)
    (c15 : PySem.W.codeIn K cd15 "_law_stands" = true)
    (k15 : PySem.W.keepIn K (.ref f15) = true)
    (a16 : PySem.W.nsIn K mainGlobals "is_pair" = some (some (.ref f16)))
    (l16 : K.lookup f16 = some ⟨oc16, od16, .func (PySem.W.fnOf "is_pair" "is_pair" (defArgs sPair) (defBody sPair) (defScope sPair) .none kV16 dc16 pm16 an16 cd16 ct16), sl16⟩)
    (c16 : PySem.W.codeIn K cd16 "is_pair" = true)
    (k16 : PySem.W.keepIn K (.ref f16) = true)
    (a17 : PySem.W.nsIn K mainGlobals "is_colours" = some (some (.ref f17)))
    (l17 : K.lookup f17 = some ⟨oc17, od17, .func (PySem.W.fnOf "is_colours" "is_colours" (defArgs sCols) (defBody sCols) (defScope sCols) .none kV17 dc17 pm17 an17 cd17 ct17), sl17⟩)
    (c17 : PySem.W.codeIn K cd17 "is_colours" = true)
    (k17 : PySem.W.keepIn K (.ref f17) = true)
    (a18 : PySem.W.nsIn K mainGlobals "is_box" = some (some (.ref f18)))
    (l18 : K.lookup f18 = some ⟨oc18, od18, .func (PySem.W.fnOf "is_box" "is_box" (defArgs sBox) (defBody sBox) (defScope sBox) .none kV18 dc18 pm18 an18 cd18 ct18), sl18⟩)
    (c18 : PySem.W.codeIn K cd18 "is_box" = true)
    (k18 : PySem.W.keepIn K (.ref f18) = true)
    (a19 : PySem.W.nsIn K mainGlobals "is_house" = some (some (.ref f19)))
    (l19 : K.lookup f19 = some ⟨oc19, od19, .func (PySem.W.fnOf "is_house" "is_house" (defArgs sIsH) (defBody sIsH) (defScope sIsH) .none kV19 dc19 pm19 an19 cd19 ct19), sl19⟩)
    (c19 : PySem.W.codeIn K cd19 "is_house" = true)
    (k19 : PySem.W.keepIn K (.ref f19) = true)
    (a20 : PySem.W.nsIn K mainGlobals "check_house" = some (some (.ref f20)))
    (l20 : K.lookup f20 = some ⟨oc20, od20, .func (PySem.W.fnOf "check_house" "check_house" (defArgs sChk) (defBody sChk) (defScope sChk) .none kV20 dc20 pm20 an20 cd20 ct20), sl20⟩)
    (c20 : PySem.W.codeIn K cd20 "check_house" = true)
    (k20 : PySem.W.keepIn K (.ref f20) = true)
    (a21 : PySem.W.nsIn K mainGlobals "is_whole" = some (some (.ref f21)))
    (l21 : K.lookup f21 = some ⟨oc21, od21, .func (PySem.W.fnOf "is_whole" "is_whole" (defArgs sWho) (defBody sWho) (defScope sWho) .none kV21 dc21 pm21 an21 cd21 ct21), sl21⟩)
    (c21 : PySem.W.codeIn K cd21 "is_whole" = true)
    (k21 : PySem.W.keepIn K (.ref f21) = true)
    (a22 : PySem.W.nsIn K mainGlobals "is_place" = some (some (.ref f22)))
    (l22 : K.lookup f22 = some ⟨oc22, od22, .func (PySem.W.fnOf "is_place" "is_place" (defArgs sPlc) (defBody sPlc) (defScope sPlc) .none kV22 dc22 pm22 an22 cd22 ct22), sl22⟩)
    (c22 : PySem.W.codeIn K cd22 "is_place" = true)
    (k22 : PySem.W.keepIn K (.ref f22) = true)
    (a23 : PySem.W.nsIn K mainGlobals "joined" = some (some (.ref f23)))
    (l23 : K.lookup f23 = some ⟨oc23, od23, .func (PySem.W.fnOf "joined" "joined" (defArgs sJn) (defBody sJn) (defScope sJn) .none kV23 dc23 pm23 an23 cd23 ct23), sl23⟩)
    (c23 : PySem.W.codeIn K cd23 "joined" = true)
    (k23 : PySem.W.keepIn K (.ref f23) = true)
    (a24 : PySem.W.nsIn K mainGlobals "changed" = some (some (.ref f24)))
    (l24 : K.lookup f24 = some ⟨oc24, od24, .func (PySem.W.fnOf "changed" "changed" (defArgs sChg) (defBody sChg) (defScope sChg) .none kV24 dc24 pm24 an24 cd24 ct24), sl24⟩)
    (c24 : PySem.W.codeIn K cd24 "changed" = true)
    (k24 : PySem.W.keepIn K (.ref f24) = true)
    (a25 : PySem.W.nsIn K mainGlobals "without" = some (some (.ref f25)))
    (l25 : K.lookup f25 = some ⟨oc25, od25, .func (PySem.W.fnOf "without" "without" (defArgs sWo) (defBody sWo) (defScope sWo) .none kV25 dc25 pm25 an25 cd25 ct25), sl25⟩)
    (c25 : PySem.W.codeIn K cd25 "without" = true)
    (k25 : PySem.W.keepIn K (.ref f25) = true)
    (a26 : PySem.W.nsIn K mainGlobals "keys_in" = some (some (.ref f26)))
    (l26 : K.lookup f26 = some ⟨oc26, od26, .func (PySem.W.fnOf "keys_in" "keys_in" (defArgs sKeys) (defBody sKeys) (defScope sKeys) .none kV26 dc26 pm26 an26 cd26 ct26), sl26⟩)
    (c26 : PySem.W.codeIn K cd26 "keys_in" = true)
    (k26 : PySem.W.keepIn K (.ref f26) = true)
    (a27 : PySem.W.nsIn K mainGlobals "fits" = some (some (.ref f27)))
    (l27 : K.lookup f27 = some ⟨oc27, od27, .func (PySem.W.fnOf "fits" "fits" (defArgs sFits) (defBody sFits) (defScope sFits) .none kV27 dc27 pm27 an27 cd27 ct27), sl27⟩)
    (c27 : PySem.W.codeIn K cd27 "fits" = true)
    (k27 : PySem.W.keepIn K (.ref f27) = true)
    (a28 : PySem.W.nsIn K mainGlobals "opened_in_rounds" = some (some (.ref f28)))
    (l28 : K.lookup f28 = some ⟨oc28, od28, .func (PySem.W.fnOf "opened_in_rounds" "opened_in_rounds" (defArgs sOpn) (defBody sOpn) (defScope sOpn) .none kV28 dc28 pm28 an28 cd28 ct28), sl28⟩)
    (c28 : PySem.W.codeIn K cd28 "opened_in_rounds" = true)
    (k28 : PySem.W.keepIn K (.ref f28) = true)
    (a29 : PySem.W.nsIn K mainGlobals "shut_boxes" = some (some (.ref f29)))
    (l29 : K.lookup f29 = some ⟨oc29, od29, .func (PySem.W.fnOf "shut_boxes" "shut_boxes" (defArgs sShB) (defBody sShB) (defScope sShB) .none kV29 dc29 pm29 an29 cd29 ct29), sl29⟩)
    (c29 : PySem.W.codeIn K cd29 "shut_boxes" = true)
    (k29 : PySem.W.keepIn K (.ref f29) = true)
    (a30 : PySem.W.nsIn K mainGlobals "_law_refused" = some (some (.ref f30)))
    (l30 : K.lookup f30 = some ⟨oc30, od30, .func (PySem.W.fnOf "_law_refused" "_law_refused" (defArgs sRef) (defBody sRef) (defScope sRef) .none kV30 dc30 pm30 an30 cd30 ct30), sl30⟩)
    (c30 : PySem.W.codeIn K cd30 "_law_refused" = true)
    (k30 : PySem.W.keepIn K (.ref f30) = true)
    (a31 : PySem.W.nsIn K mainGlobals "law" = some (some (.ref f31)))
    (l31 : K.lookup f31 = some ⟨oc31, od31, .func (PySem.W.fnOf "law" "law" (defArgs sLaw) (defBody sLaw) (defScope sLaw) .none kV31 dc31 pm31 an31 (.ref c_Law) ct31), sl31⟩)
    (c31 : PySem.W.codeIn K (.ref c_Law) "law" = true)
    (k31 : PySem.W.keepIn K (.ref f31) = true)
    (z_isi : PySem.W.nsIn K mainGlobals "isinstance" = some none)
    (z_tup : PySem.W.nsIn K mainGlobals "tuple" = some none)
    (z_lst : PySem.W.nsIn K mainGlobals "list" = some none)
    (z_str : PySem.W.nsIn K mainGlobals "str" = some none)
    (z_len : PySem.W.nsIn K mainGlobals "len" = some none)
    (z_all : PySem.W.nsIn K mainGlobals "all" = some none)
    (z_zip : PySem.W.nsIn K mainGlobals "zip" = some none)
    (z_rng : PySem.W.nsIn K mainGlobals "range" = some none)
    (z_int : PySem.W.nsIn K mainGlobals "int" = some none)
    (z_max : PySem.W.nsIn K mainGlobals "max" = some none)
    (z_min : PySem.W.nsIn K mainGlobals "min" = some none)
    (z_srt : PySem.W.nsIn K mainGlobals "sorted" = some none)
    (z_enu : PySem.W.nsIn K mainGlobals "enumerate" = some none)
    (z_sum : PySem.W.nsIn K mainGlobals "sum" = some none)
    (z_abs : PySem.W.nsIn K mainGlobals "abs" = some none)
    (z_rpr : PySem.W.nsIn K mainGlobals "repr" = some none)
    (z_set : PySem.W.nsIn K mainGlobals "set" = some none)
    (z_bool : PySem.W.nsIn K mainGlobals "bool" = some none)
    (z_ver : PySem.W.nsIn K mainGlobals "ValueError" = some none)
    (z_any : PySem.W.nsIn K mainGlobals "any" = some none)
    (m_MOST_LETTERS : PySem.W.nsIn K mainGlobals "MOST_LETTERS" = some (some (.int 8 t_MOST_LETTERS)))
    (m_SMALL_LETTERS : PySem.W.nsIn K mainGlobals "SMALL_LETTERS" = some (some (.str "abcdefghijklmnopqrstuvwxyz" t_SMALL_LETTERS)))
    (m_MOST_BOXES : PySem.W.nsIn K mainGlobals "MOST_BOXES" = some (some (.int 30 t_MOST_BOXES)))
    (m_MOST_LOCKS : PySem.W.nsIn K mainGlobals "MOST_LOCKS" = some (some (.int 3 t_MOST_LOCKS)))
    (m_MOST_KEYS : PySem.W.nsIn K mainGlobals "MOST_KEYS" = some (some (.int 6 t_MOST_KEYS)))
    (e_NoHouse : PySem.W.nsIn K mainGlobals "NoHouse" = some (some (.ref d0)))
    (i_NoHouse : PySem.W.isClsIn K d0 = true)
    (t_NoHouse : PySem.W.typeIn K (.ref d0) = some (.type "type"))
    (b_NoHouse : PySem.W.subIn K (.ref d0) (.type "BaseException") = some true)
    (h_NoHouse : PySem.W.hasDictIn K d0 = true)
    (e_NoColour : PySem.W.nsIn K mainGlobals "NoColour" = some (some (.ref d1)))
    (i_NoColour : PySem.W.isClsIn K d1 = true)
    (t_NoColour : PySem.W.typeIn K (.ref d1) = some (.type "type"))
    (b_NoColour : PySem.W.subIn K (.ref d1) (.type "BaseException") = some true)
    (h_NoColour : PySem.W.hasDictIn K d1 = true)
    (e_NoRow : PySem.W.nsIn K mainGlobals "NoRow" = some (some (.ref d2)))
    (i_NoRow : PySem.W.isClsIn K d2 = true)
    (t_NoRow : PySem.W.typeIn K (.ref d2) = some (.type "type"))
    (b_NoRow : PySem.W.subIn K (.ref d2) (.type "BaseException") = some true)
    (h_NoRow : PySem.W.hasDictIn K d2 = true)
    (e_NoBoxes : PySem.W.nsIn K mainGlobals "NoBoxes" = some (some (.ref d3)))
    (i_NoBoxes : PySem.W.isClsIn K d3 = true)
    (t_NoBoxes : PySem.W.typeIn K (.ref d3) = some (.type "type"))
    (b_NoBoxes : PySem.W.subIn K (.ref d3) (.type "BaseException") = some true)
    (h_NoBoxes : PySem.W.hasDictIn K d3 = true)
    (e_NoLaying : PySem.W.nsIn K mainGlobals "NoLaying" = some (some (.ref d4)))
    (i_NoLaying : PySem.W.isClsIn K d4 = true)
    (t_NoLaying : PySem.W.typeIn K (.ref d4) = some (.type "type"))
    (b_NoLaying : PySem.W.subIn K (.ref d4) (.type "BaseException") = some true)
    (h_NoLaying : PySem.W.hasDictIn K d4 = true)
    (e_NoNumber : PySem.W.nsIn K mainGlobals "NoNumber" = some (some (.ref d5)))
    (i_NoNumber : PySem.W.isClsIn K d5 = true)
    (t_NoNumber : PySem.W.typeIn K (.ref d5) = some (.type "type"))
    (b_NoNumber : PySem.W.subIn K (.ref d5) (.type "BaseException") = some true)
    (h_NoNumber : PySem.W.hasDictIn K d5 = true)
    (e_NoBox : PySem.W.nsIn K mainGlobals "NoBox" = some (some (.ref d6)))
    (i_NoBox : PySem.W.isClsIn K d6 = true)
    (t_NoBox : PySem.W.typeIn K (.ref d6) = some (.type "type"))
    (b_NoBox : PySem.W.subIn K (.ref d6) (.type "BaseException") = some true)
    (h_NoBox : PySem.W.hasDictIn K d6 = true)
    (e_NoKey : PySem.W.nsIn K mainGlobals "NoKey" = some (some (.ref d7)))
    (i_NoKey : PySem.W.isClsIn K d7 = true)
    (t_NoKey : PySem.W.typeIn K (.ref d7) = some (.type "type"))
    (b_NoKey : PySem.W.subIn K (.ref d7) (.type "BaseException") = some true)
    (h_NoKey : PySem.W.hasDictIn K d7 = true)
    (e_Locks : PySem.W.nsIn K mainGlobals "Locks" = some (some (.ref d8)))
    (i_Locks : PySem.W.isClsIn K d8 = true)
    (t_Locks : PySem.W.typeIn K (.ref d8) = some (.type "type"))
    (b_Locks : PySem.W.subIn K (.ref d8) (.type "BaseException") = some true)
    (h_Locks : PySem.W.hasDictIn K d8 = true)
    (e_Unlike : PySem.W.nsIn K mainGlobals "Unlike" = some (some (.ref d9)))
    (i_Unlike : PySem.W.isClsIn K d9 = true)
    (t_Unlike : PySem.W.typeIn K (.ref d9) = some (.type "type"))
    (b_Unlike : PySem.W.subIn K (.ref d9) (.type "BaseException") = some true)
    (h_Unlike : PySem.W.hasDictIn K d9 = true)
    (e_Open : PySem.W.nsIn K mainGlobals "Open" = some (some (.ref d10)))
    (i_Open : PySem.W.isClsIn K d10 = true)
    (t_Open : PySem.W.typeIn K (.ref d10) = some (.type "type"))
    (b_Open : PySem.W.subIn K (.ref d10) (.type "BaseException") = some true)
    (h_Open : PySem.W.hasDictIn K d10 = true)
    (e_Shut : PySem.W.nsIn K mainGlobals "Shut" = some (some (.ref d11)))
    (i_Shut : PySem.W.isClsIn K d11 = true)
    (t_Shut : PySem.W.typeIn K (.ref d11) = some (.type "type"))
    (b_Shut : PySem.W.subIn K (.ref d11) (.type "BaseException") = some true)
    (h_Shut : PySem.W.hasDictIn K d11 = true)
    (e_Full : PySem.W.nsIn K mainGlobals "Full" = some (some (.ref d12)))
    (i_Full : PySem.W.isClsIn K d12 = true)
    (t_Full : PySem.W.typeIn K (.ref d12) = some (.type "type"))
    (b_Full : PySem.W.subIn K (.ref d12) (.type "BaseException") = some true)
    (h_Full : PySem.W.hasDictIn K d12 = true)
    (e_NothingLeft : PySem.W.nsIn K mainGlobals "NothingLeft" = some (some (.ref d13)))
    (i_NothingLeft : PySem.W.isClsIn K d13 = true)
    (t_NothingLeft : PySem.W.typeIn K (.ref d13) = some (.type "type"))
    (b_NothingLeft : PySem.W.subIn K (.ref d13) (.type "BaseException") = some true)
    (h_NothingLeft : PySem.W.hasDictIn K d13 = true)
    (e_TooMany : PySem.W.nsIn K mainGlobals "TooMany" = some (some (.ref dT)))
    (i_TooMany : PySem.W.isClsIn K dT = true)
    (t_TooMany : PySem.W.typeIn K (.ref dT) = some (.type "type"))
    (b_TooMany : PySem.W.subIn K (.ref dT) (.type "BaseException") = some true)
    (h_TooMany : PySem.W.hasDictIn K dT = true)
    (e_Locked : PySem.W.nsIn K mainGlobals "Locked" = some (some (.ref dL)))
    (i_Locked : PySem.W.isClsIn K dL = true)
    (t_Locked : PySem.W.typeIn K (.ref dL) = some (.type "type"))
    (b_Locked : PySem.W.subIn K (.ref dL) (.type "BaseException") = some true)
    (h_Locked : PySem.W.hasDictIn K dL = true)
    (e_BoxError : PySem.W.nsIn K mainGlobals "BoxError" = some (some (.ref dB)))
    (i_BoxError : PySem.W.isClsIn K dB = true)
    (t_BoxError : PySem.W.typeIn K (.ref dB) = some (.type "type"))
    (b_BoxError : PySem.W.subIn K (.ref dB) (.type "BaseException") = some true)
    (h_BoxError : PySem.W.hasDictIn K dB = true)
    (v_NoHouse : PySem.W.subIn K (.ref d0) (.type "ValueError") = some true)
    (s_NoHouse_NoHouse : PySem.W.subIn K (.ref d0) (.ref d0) = some true)
    (s_NoHouse_NoColour : PySem.W.subIn K (.ref d0) (.ref d1) = some false)
    (n_NoHouse_NoColour : (Value.ref d0 == .ref d1) = false)
    (s_NoHouse_NoRow : PySem.W.subIn K (.ref d0) (.ref d2) = some false)
    (n_NoHouse_NoRow : (Value.ref d0 == .ref d2) = false)
    (s_NoHouse_NoBoxes : PySem.W.subIn K (.ref d0) (.ref d3) = some false)
    (n_NoHouse_NoBoxes : (Value.ref d0 == .ref d3) = false)
    (s_NoHouse_NoLaying : PySem.W.subIn K (.ref d0) (.ref d4) = some false)
    (n_NoHouse_NoLaying : (Value.ref d0 == .ref d4) = false)
    (s_NoHouse_NoNumber : PySem.W.subIn K (.ref d0) (.ref d5) = some false)
    (n_NoHouse_NoNumber : (Value.ref d0 == .ref d5) = false)
    (s_NoHouse_NoBox : PySem.W.subIn K (.ref d0) (.ref d6) = some false)
    (n_NoHouse_NoBox : (Value.ref d0 == .ref d6) = false)
    (s_NoHouse_NoKey : PySem.W.subIn K (.ref d0) (.ref d7) = some false)
    (n_NoHouse_NoKey : (Value.ref d0 == .ref d7) = false)
    (s_NoHouse_Locks : PySem.W.subIn K (.ref d0) (.ref d8) = some false)
    (n_NoHouse_Locks : (Value.ref d0 == .ref d8) = false)
    (s_NoHouse_Unlike : PySem.W.subIn K (.ref d0) (.ref d9) = some false)
    (n_NoHouse_Unlike : (Value.ref d0 == .ref d9) = false)
    (s_NoHouse_Open : PySem.W.subIn K (.ref d0) (.ref d10) = some false)
    (n_NoHouse_Open : (Value.ref d0 == .ref d10) = false)
    (s_NoHouse_Shut : PySem.W.subIn K (.ref d0) (.ref d11) = some false)
    (n_NoHouse_Shut : (Value.ref d0 == .ref d11) = false)
    (s_NoHouse_Full : PySem.W.subIn K (.ref d0) (.ref d12) = some false)
    (n_NoHouse_Full : (Value.ref d0 == .ref d12) = false)
    (s_NoHouse_NothingLeft : PySem.W.subIn K (.ref d0) (.ref d13) = some false)
    (n_NoHouse_NothingLeft : (Value.ref d0 == .ref d13) = false)
    (s_NoHouse_TooMany : PySem.W.subIn K (.ref d0) (.ref dT) = some false)
    (s_NoHouse_Locked : PySem.W.subIn K (.ref d0) (.ref dL) = some false)
    (s_NoHouse_BoxError : PySem.W.subIn K (.ref d0) (.ref dB) = some true)
    (w1_NoHouse : PySem.W.findIn K (.ref d0) "__getattribute__" = some (some (.builtin "BaseException.__getattribute__")))
    (w2_NoHouse : PySem.W.findIn K (.ref d0) "__getattr__" = some none)
    (w5_NoHouse : PySem.W.findIn K (.ref d0) "__class__" = some (some (.builtin "object.__class__")))
    (w8_NoHouse : PySem.W.mroIn K d0 (.type "object") = some true)
    (xq_NoHouse : PySem.W.excIn K d0 [.type "ValueError", .type "Exception", .type "BaseException", .type "object"] "ValueError.__new__" = true)
    (xk_NoHouse : PySem.W.keepIn K (.ref d0) = true)
    (v_NoBox : PySem.W.subIn K (.ref d6) (.type "ValueError") = some true)
    (s_NoBox_NoHouse : PySem.W.subIn K (.ref d6) (.ref d0) = some false)
    (n_NoBox_NoHouse : (Value.ref d6 == .ref d0) = false)
    (s_NoBox_NoColour : PySem.W.subIn K (.ref d6) (.ref d1) = some false)
    (n_NoBox_NoColour : (Value.ref d6 == .ref d1) = false)
    (s_NoBox_NoRow : PySem.W.subIn K (.ref d6) (.ref d2) = some false)
    (n_NoBox_NoRow : (Value.ref d6 == .ref d2) = false)
    (s_NoBox_NoBoxes : PySem.W.subIn K (.ref d6) (.ref d3) = some false)
    (n_NoBox_NoBoxes : (Value.ref d6 == .ref d3) = false)
    (s_NoBox_NoLaying : PySem.W.subIn K (.ref d6) (.ref d4) = some false)
    (n_NoBox_NoLaying : (Value.ref d6 == .ref d4) = false)
    (s_NoBox_NoNumber : PySem.W.subIn K (.ref d6) (.ref d5) = some false)
    (n_NoBox_NoNumber : (Value.ref d6 == .ref d5) = false)
    (s_NoBox_NoBox : PySem.W.subIn K (.ref d6) (.ref d6) = some true)
    (s_NoBox_NoKey : PySem.W.subIn K (.ref d6) (.ref d7) = some false)
    (n_NoBox_NoKey : (Value.ref d6 == .ref d7) = false)
    (s_NoBox_Locks : PySem.W.subIn K (.ref d6) (.ref d8) = some false)
    (n_NoBox_Locks : (Value.ref d6 == .ref d8) = false)
    (s_NoBox_Unlike : PySem.W.subIn K (.ref d6) (.ref d9) = some false)
    (n_NoBox_Unlike : (Value.ref d6 == .ref d9) = false)
    (s_NoBox_Open : PySem.W.subIn K (.ref d6) (.ref d10) = some false)
    (n_NoBox_Open : (Value.ref d6 == .ref d10) = false)
    (s_NoBox_Shut : PySem.W.subIn K (.ref d6) (.ref d11) = some false)
    (n_NoBox_Shut : (Value.ref d6 == .ref d11) = false)
    (s_NoBox_Full : PySem.W.subIn K (.ref d6) (.ref d12) = some false)
    (n_NoBox_Full : (Value.ref d6 == .ref d12) = false)
    (s_NoBox_NothingLeft : PySem.W.subIn K (.ref d6) (.ref d13) = some false)
    (n_NoBox_NothingLeft : (Value.ref d6 == .ref d13) = false)
    (s_NoBox_TooMany : PySem.W.subIn K (.ref d6) (.ref dT) = some false)
    (s_NoBox_Locked : PySem.W.subIn K (.ref d6) (.ref dL) = some false)
    (s_NoBox_BoxError : PySem.W.subIn K (.ref d6) (.ref dB) = some true)
    (w1_NoBox : PySem.W.findIn K (.ref d6) "__getattribute__" = some (some (.builtin "BaseException.__getattribute__")))
    (w2_NoBox : PySem.W.findIn K (.ref d6) "__getattr__" = some none)
    (w5_NoBox : PySem.W.findIn K (.ref d6) "__class__" = some (some (.builtin "object.__class__")))
    (w8_NoBox : PySem.W.mroIn K d6 (.type "object") = some true)
    (xq_NoBox : PySem.W.excIn K d6 [.type "ValueError", .type "Exception", .type "BaseException", .type "object"] "ValueError.__new__" = true)
    (xk_NoBox : PySem.W.keepIn K (.ref d6) = true)
    (v_NoKey : PySem.W.subIn K (.ref d7) (.type "ValueError") = some true)
    (s_NoKey_NoHouse : PySem.W.subIn K (.ref d7) (.ref d0) = some false)
    (n_NoKey_NoHouse : (Value.ref d7 == .ref d0) = false)
    (s_NoKey_NoColour : PySem.W.subIn K (.ref d7) (.ref d1) = some false)
    (n_NoKey_NoColour : (Value.ref d7 == .ref d1) = false)
    (s_NoKey_NoRow : PySem.W.subIn K (.ref d7) (.ref d2) = some false)
    (n_NoKey_NoRow : (Value.ref d7 == .ref d2) = false)
    (s_NoKey_NoBoxes : PySem.W.subIn K (.ref d7) (.ref d3) = some false)
    (n_NoKey_NoBoxes : (Value.ref d7 == .ref d3) = false)
    (s_NoKey_NoLaying : PySem.W.subIn K (.ref d7) (.ref d4) = some false)
    (n_NoKey_NoLaying : (Value.ref d7 == .ref d4) = false)
    (s_NoKey_NoNumber : PySem.W.subIn K (.ref d7) (.ref d5) = some false)
    (n_NoKey_NoNumber : (Value.ref d7 == .ref d5) = false)
    (s_NoKey_NoBox : PySem.W.subIn K (.ref d7) (.ref d6) = some false)
    (n_NoKey_NoBox : (Value.ref d7 == .ref d6) = false)
    (s_NoKey_NoKey : PySem.W.subIn K (.ref d7) (.ref d7) = some true)
    (s_NoKey_Locks : PySem.W.subIn K (.ref d7) (.ref d8) = some false)
    (n_NoKey_Locks : (Value.ref d7 == .ref d8) = false)
    (s_NoKey_Unlike : PySem.W.subIn K (.ref d7) (.ref d9) = some false)
    (n_NoKey_Unlike : (Value.ref d7 == .ref d9) = false)
    (s_NoKey_Open : PySem.W.subIn K (.ref d7) (.ref d10) = some false)
    (n_NoKey_Open : (Value.ref d7 == .ref d10) = false)
    (s_NoKey_Shut : PySem.W.subIn K (.ref d7) (.ref d11) = some false)
    (n_NoKey_Shut : (Value.ref d7 == .ref d11) = false)
    (s_NoKey_Full : PySem.W.subIn K (.ref d7) (.ref d12) = some false)
    (n_NoKey_Full : (Value.ref d7 == .ref d12) = false)
    (s_NoKey_NothingLeft : PySem.W.subIn K (.ref d7) (.ref d13) = some false)
    (n_NoKey_NothingLeft : (Value.ref d7 == .ref d13) = false)
    (s_NoKey_TooMany : PySem.W.subIn K (.ref d7) (.ref dT) = some false)
    (s_NoKey_Locked : PySem.W.subIn K (.ref d7) (.ref dL) = some false)
    (s_NoKey_BoxError : PySem.W.subIn K (.ref d7) (.ref dB) = some true)
    (w1_NoKey : PySem.W.findIn K (.ref d7) "__getattribute__" = some (some (.builtin "BaseException.__getattribute__")))
    (w2_NoKey : PySem.W.findIn K (.ref d7) "__getattr__" = some none)
    (w5_NoKey : PySem.W.findIn K (.ref d7) "__class__" = some (some (.builtin "object.__class__")))
    (w8_NoKey : PySem.W.mroIn K d7 (.type "object") = some true)
    (xq_NoKey : PySem.W.excIn K d7 [.type "ValueError", .type "Exception", .type "BaseException", .type "object"] "ValueError.__new__" = true)
    (xk_NoKey : PySem.W.keepIn K (.ref d7) = true)
    (v_Open : PySem.W.subIn K (.ref d10) (.type "ValueError") = some true)
    (s_Open_NoHouse : PySem.W.subIn K (.ref d10) (.ref d0) = some false)
    (n_Open_NoHouse : (Value.ref d10 == .ref d0) = false)
    (s_Open_NoColour : PySem.W.subIn K (.ref d10) (.ref d1) = some false)
    (n_Open_NoColour : (Value.ref d10 == .ref d1) = false)
    (s_Open_NoRow : PySem.W.subIn K (.ref d10) (.ref d2) = some false)
    (n_Open_NoRow : (Value.ref d10 == .ref d2) = false)
    (s_Open_NoBoxes : PySem.W.subIn K (.ref d10) (.ref d3) = some false)
    (n_Open_NoBoxes : (Value.ref d10 == .ref d3) = false)
    (s_Open_NoLaying : PySem.W.subIn K (.ref d10) (.ref d4) = some false)
    (n_Open_NoLaying : (Value.ref d10 == .ref d4) = false)
    (s_Open_NoNumber : PySem.W.subIn K (.ref d10) (.ref d5) = some false)
    (n_Open_NoNumber : (Value.ref d10 == .ref d5) = false)
    (s_Open_NoBox : PySem.W.subIn K (.ref d10) (.ref d6) = some false)
    (n_Open_NoBox : (Value.ref d10 == .ref d6) = false)
    (s_Open_NoKey : PySem.W.subIn K (.ref d10) (.ref d7) = some false)
    (n_Open_NoKey : (Value.ref d10 == .ref d7) = false)
    (s_Open_Locks : PySem.W.subIn K (.ref d10) (.ref d8) = some false)
    (n_Open_Locks : (Value.ref d10 == .ref d8) = false)
    (s_Open_Unlike : PySem.W.subIn K (.ref d10) (.ref d9) = some false)
    (n_Open_Unlike : (Value.ref d10 == .ref d9) = false)
    (s_Open_Open : PySem.W.subIn K (.ref d10) (.ref d10) = some true)
    (s_Open_Shut : PySem.W.subIn K (.ref d10) (.ref d11) = some false)
    (n_Open_Shut : (Value.ref d10 == .ref d11) = false)
    (s_Open_Full : PySem.W.subIn K (.ref d10) (.ref d12) = some false)
    (n_Open_Full : (Value.ref d10 == .ref d12) = false)
    (s_Open_NothingLeft : PySem.W.subIn K (.ref d10) (.ref d13) = some false)
    (n_Open_NothingLeft : (Value.ref d10 == .ref d13) = false)
    (s_Open_TooMany : PySem.W.subIn K (.ref d10) (.ref dT) = some false)
    (s_Open_Locked : PySem.W.subIn K (.ref d10) (.ref dL) = some false)
    (s_Open_BoxError : PySem.W.subIn K (.ref d10) (.ref dB) = some true)
    (w1_Open : PySem.W.findIn K (.ref d10) "__getattribute__" = some (some (.builtin "BaseException.__getattribute__")))
    (w2_Open : PySem.W.findIn K (.ref d10) "__getattr__" = some none)
    (w5_Open : PySem.W.findIn K (.ref d10) "__class__" = some (some (.builtin "object.__class__")))
    (w8_Open : PySem.W.mroIn K d10 (.type "object") = some true)
    (xq_Open : PySem.W.excIn K d10 [.type "ValueError", .type "Exception", .type "BaseException", .type "object"] "ValueError.__new__" = true)
    (xk_Open : PySem.W.keepIn K (.ref d10) = true)
    (v_Shut : PySem.W.subIn K (.ref d11) (.type "ValueError") = some true)
    (s_Shut_NoHouse : PySem.W.subIn K (.ref d11) (.ref d0) = some false)
    (n_Shut_NoHouse : (Value.ref d11 == .ref d0) = false)
    (s_Shut_NoColour : PySem.W.subIn K (.ref d11) (.ref d1) = some false)
    (n_Shut_NoColour : (Value.ref d11 == .ref d1) = false)
    (s_Shut_NoRow : PySem.W.subIn K (.ref d11) (.ref d2) = some false)
    (n_Shut_NoRow : (Value.ref d11 == .ref d2) = false)
    (s_Shut_NoBoxes : PySem.W.subIn K (.ref d11) (.ref d3) = some false)
    (n_Shut_NoBoxes : (Value.ref d11 == .ref d3) = false)
    (s_Shut_NoLaying : PySem.W.subIn K (.ref d11) (.ref d4) = some false)
    (n_Shut_NoLaying : (Value.ref d11 == .ref d4) = false)
    (s_Shut_NoNumber : PySem.W.subIn K (.ref d11) (.ref d5) = some false)
    (n_Shut_NoNumber : (Value.ref d11 == .ref d5) = false)
    (s_Shut_NoBox : PySem.W.subIn K (.ref d11) (.ref d6) = some false)
    (n_Shut_NoBox : (Value.ref d11 == .ref d6) = false)
    (s_Shut_NoKey : PySem.W.subIn K (.ref d11) (.ref d7) = some false)
    (n_Shut_NoKey : (Value.ref d11 == .ref d7) = false)
    (s_Shut_Locks : PySem.W.subIn K (.ref d11) (.ref d8) = some false)
    (n_Shut_Locks : (Value.ref d11 == .ref d8) = false)
    (s_Shut_Unlike : PySem.W.subIn K (.ref d11) (.ref d9) = some false)
    (n_Shut_Unlike : (Value.ref d11 == .ref d9) = false)
    (s_Shut_Open : PySem.W.subIn K (.ref d11) (.ref d10) = some false)
    (n_Shut_Open : (Value.ref d11 == .ref d10) = false)
    (s_Shut_Shut : PySem.W.subIn K (.ref d11) (.ref d11) = some true)
    (s_Shut_Full : PySem.W.subIn K (.ref d11) (.ref d12) = some false)
    (n_Shut_Full : (Value.ref d11 == .ref d12) = false)
    (s_Shut_NothingLeft : PySem.W.subIn K (.ref d11) (.ref d13) = some false)
    (n_Shut_NothingLeft : (Value.ref d11 == .ref d13) = false)
    (s_Shut_TooMany : PySem.W.subIn K (.ref d11) (.ref dT) = some false)
    (s_Shut_Locked : PySem.W.subIn K (.ref d11) (.ref dL) = some false)
    (s_Shut_BoxError : PySem.W.subIn K (.ref d11) (.ref dB) = some true)
    (w1_Shut : PySem.W.findIn K (.ref d11) "__getattribute__" = some (some (.builtin "BaseException.__getattribute__")))
    (w2_Shut : PySem.W.findIn K (.ref d11) "__getattr__" = some none)
    (w5_Shut : PySem.W.findIn K (.ref d11) "__class__" = some (some (.builtin "object.__class__")))
    (w8_Shut : PySem.W.mroIn K d11 (.type "object") = some true)
    (xq_Shut : PySem.W.excIn K d11 [.type "ValueError", .type "Exception", .type "BaseException", .type "object"] "ValueError.__new__" = true)
    (xk_Shut : PySem.W.keepIn K (.ref d11) = true)
    (v_Full : PySem.W.subIn K (.ref d12) (.type "ValueError") = some true)
    (s_Full_NoHouse : PySem.W.subIn K (.ref d12) (.ref d0) = some false)
    (n_Full_NoHouse : (Value.ref d12 == .ref d0) = false)
    (s_Full_NoColour : PySem.W.subIn K (.ref d12) (.ref d1) = some false)
    (n_Full_NoColour : (Value.ref d12 == .ref d1) = false)
    (s_Full_NoRow : PySem.W.subIn K (.ref d12) (.ref d2) = some false)
    (n_Full_NoRow : (Value.ref d12 == .ref d2) = false)
    (s_Full_NoBoxes : PySem.W.subIn K (.ref d12) (.ref d3) = some false)
    (n_Full_NoBoxes : (Value.ref d12 == .ref d3) = false)
    (s_Full_NoLaying : PySem.W.subIn K (.ref d12) (.ref d4) = some false)
    (n_Full_NoLaying : (Value.ref d12 == .ref d4) = false)
    (s_Full_NoNumber : PySem.W.subIn K (.ref d12) (.ref d5) = some false)
    (n_Full_NoNumber : (Value.ref d12 == .ref d5) = false)
    (s_Full_NoBox : PySem.W.subIn K (.ref d12) (.ref d6) = some false)
    (n_Full_NoBox : (Value.ref d12 == .ref d6) = false)
    (s_Full_NoKey : PySem.W.subIn K (.ref d12) (.ref d7) = some false)
    (n_Full_NoKey : (Value.ref d12 == .ref d7) = false)
    (s_Full_Locks : PySem.W.subIn K (.ref d12) (.ref d8) = some false)
    (n_Full_Locks : (Value.ref d12 == .ref d8) = false)
    (s_Full_Unlike : PySem.W.subIn K (.ref d12) (.ref d9) = some false)
    (n_Full_Unlike : (Value.ref d12 == .ref d9) = false)
    (s_Full_Open : PySem.W.subIn K (.ref d12) (.ref d10) = some false)
    (n_Full_Open : (Value.ref d12 == .ref d10) = false)
    (s_Full_Shut : PySem.W.subIn K (.ref d12) (.ref d11) = some false)
    (n_Full_Shut : (Value.ref d12 == .ref d11) = false)
    (s_Full_Full : PySem.W.subIn K (.ref d12) (.ref d12) = some true)
    (s_Full_NothingLeft : PySem.W.subIn K (.ref d12) (.ref d13) = some false)
    (n_Full_NothingLeft : (Value.ref d12 == .ref d13) = false)
    (s_Full_TooMany : PySem.W.subIn K (.ref d12) (.ref dT) = some false)
    (s_Full_Locked : PySem.W.subIn K (.ref d12) (.ref dL) = some false)
    (s_Full_BoxError : PySem.W.subIn K (.ref d12) (.ref dB) = some true)
    (w1_Full : PySem.W.findIn K (.ref d12) "__getattribute__" = some (some (.builtin "BaseException.__getattribute__")))
    (w2_Full : PySem.W.findIn K (.ref d12) "__getattr__" = some none)
    (w5_Full : PySem.W.findIn K (.ref d12) "__class__" = some (some (.builtin "object.__class__")))
    (w8_Full : PySem.W.mroIn K d12 (.type "object") = some true)
    (xq_Full : PySem.W.excIn K d12 [.type "ValueError", .type "Exception", .type "BaseException", .type "object"] "ValueError.__new__" = true)
    (xk_Full : PySem.W.keepIn K (.ref d12) = true)
    (v_NothingLeft : PySem.W.subIn K (.ref d13) (.type "ValueError") = some true)
    (s_NothingLeft_NoHouse : PySem.W.subIn K (.ref d13) (.ref d0) = some false)
    (n_NothingLeft_NoHouse : (Value.ref d13 == .ref d0) = false)
    (s_NothingLeft_NoColour : PySem.W.subIn K (.ref d13) (.ref d1) = some false)
    (n_NothingLeft_NoColour : (Value.ref d13 == .ref d1) = false)
    (s_NothingLeft_NoRow : PySem.W.subIn K (.ref d13) (.ref d2) = some false)
    (n_NothingLeft_NoRow : (Value.ref d13 == .ref d2) = false)
    (s_NothingLeft_NoBoxes : PySem.W.subIn K (.ref d13) (.ref d3) = some false)
    (n_NothingLeft_NoBoxes : (Value.ref d13 == .ref d3) = false)
    (s_NothingLeft_NoLaying : PySem.W.subIn K (.ref d13) (.ref d4) = some false)
    (n_NothingLeft_NoLaying : (Value.ref d13 == .ref d4) = false)
    (s_NothingLeft_NoNumber : PySem.W.subIn K (.ref d13) (.ref d5) = some false)
    (n_NothingLeft_NoNumber : (Value.ref d13 == .ref d5) = false)
    (s_NothingLeft_NoBox : PySem.W.subIn K (.ref d13) (.ref d6) = some false)
    (n_NothingLeft_NoBox : (Value.ref d13 == .ref d6) = false)
    (s_NothingLeft_NoKey : PySem.W.subIn K (.ref d13) (.ref d7) = some false)
    (n_NothingLeft_NoKey : (Value.ref d13 == .ref d7) = false)
    (s_NothingLeft_Locks : PySem.W.subIn K (.ref d13) (.ref d8) = some false)
    (n_NothingLeft_Locks : (Value.ref d13 == .ref d8) = false)
    (s_NothingLeft_Unlike : PySem.W.subIn K (.ref d13) (.ref d9) = some false)
    (n_NothingLeft_Unlike : (Value.ref d13 == .ref d9) = false)
    (s_NothingLeft_Open : PySem.W.subIn K (.ref d13) (.ref d10) = some false)
    (n_NothingLeft_Open : (Value.ref d13 == .ref d10) = false)
    (s_NothingLeft_Shut : PySem.W.subIn K (.ref d13) (.ref d11) = some false)
    (n_NothingLeft_Shut : (Value.ref d13 == .ref d11) = false)
    (s_NothingLeft_Full : PySem.W.subIn K (.ref d13) (.ref d12) = some false)
    (n_NothingLeft_Full : (Value.ref d13 == .ref d12) = false)
    (s_NothingLeft_NothingLeft : PySem.W.subIn K (.ref d13) (.ref d13) = some true)
    (s_NothingLeft_TooMany : PySem.W.subIn K (.ref d13) (.ref dT) = some false)
    (s_NothingLeft_Locked : PySem.W.subIn K (.ref d13) (.ref dL) = some false)
    (s_NothingLeft_BoxError : PySem.W.subIn K (.ref d13) (.ref dB) = some true)
    (w1_NothingLeft : PySem.W.findIn K (.ref d13) "__getattribute__" = some (some (.builtin "BaseException.__getattribute__")))
    (w2_NothingLeft : PySem.W.findIn K (.ref d13) "__getattr__" = some none)
    (w5_NothingLeft : PySem.W.findIn K (.ref d13) "__class__" = some (some (.builtin "object.__class__")))
    (w8_NothingLeft : PySem.W.mroIn K d13 (.type "object") = some true)
    (xq_NothingLeft : PySem.W.excIn K d13 [.type "ValueError", .type "Exception", .type "BaseException", .type "object"] "ValueError.__new__" = true)
    (xk_NothingLeft : PySem.W.keepIn K (.ref d13) = true)
    (w6 : PySem.W.specialIn K (.builtin "object.__class__") "__get__" = some (some (.builtin "getset_descriptor.__get__")))
    (w7 : PySem.W.takesIn K (.builtin "object.__class__") = some true)
    (tn_Law : K.lookup Pt_Law = none)
    (tl_Law : K.lookup c_Law = some ⟨.type "code", tod_Law, .fields tvs_Law, tsl_Law⟩)
    (th_Law : codeVs tvs_Law c_Law Pt_Law = true)
    (v_Locked : PySem.W.subIn K (.ref dL) (.type "ValueError") = some true)
    (w1_Locked : PySem.W.findIn K (.ref dL) "__getattribute__" = some (some (.builtin "BaseException.__getattribute__")))
    (w2_Locked : PySem.W.findIn K (.ref dL) "__getattr__" = some none)
    (w5_Locked : PySem.W.findIn K (.ref dL) "__class__" = some (some (.builtin "object.__class__")))
    (w8_Locked : PySem.W.mroIn K dL (.type "object") = some true)
    (xk_Locked : PySem.W.keepIn K (.ref dL) = true)
    (ss_Locked : PySem.W.subIn K (.ref dL) (.ref dL) = some true)
    (sa_Locked : PySem.W.findIn K (.ref dL) "__setattr__" = some (some (.builtin "object.__setattr__")))
    (no_Locked : PySem.W.findIn K (.ref dL) "colour" = some none)
    (cl_Locked : K.lookup dL = some (excClassObj xn_Locked xq_Locked dL xN_Locked xbs_Locked xbm_Locked true xsn_Locked xsub_Locked xab_Locked xcol_Locked xdd_Locked xk0_Locked xk1_Locked xk2_Locked xk3_Locked xk5_Locked "ValueError.__new__"))
    (rv_Locked : PySem.HandSPX.refsVE xbm_Locked = true)
    (in_Locked : PySem.W.findIn K (.ref dL) "__init__" = some (some (.ref fI_Locked)))
    (ity_Locked : PySem.W.typeIn K (.ref fI_Locked) = some (.type "function"))
    (il_Locked : K.lookup fI_Locked = some ⟨ioc_Locked, iod_Locked, .func (PySem.W.fnOf "__init__" "Locked.__init__" (defArgs sLkI) (defBody sLkI) (defScope sLkI) .none ikV_Locked idc_Locked ipm_Locked ian_Locked icd_Locked ict_Locked), isl_Locked⟩)
    (ic_Locked : PySem.W.codeIn K icd_Locked "Locked.__init__" = true)
    (ik_Locked : PySem.W.keepIn K (.ref fI_Locked) = true)
    (e_Kept : PySem.W.nsIn K mainGlobals "Kept" = some (some (.ref CK)))
    (mk_Kept : PySem.W.makesIn K CK = true)
    (kp_Kept : PySem.W.keepIn K (.ref CK) = true)
    (kf_KpI : PySem.W.findIn K (.ref CK) "__init__" = some (some (.ref fK_KpI)))
    (kn_KpI : PySem.W.isFn K (.ref fK_KpI) = true)
    (kl_KpI : K.lookup fK_KpI = some ⟨koc_KpI, kod_KpI, .func (PySem.W.fnOf "__init__" "Kept.__init__" (defArgs sKpI) (defBody sKpI) (defScope sKpI) .none kkV_KpI kdc_KpI kpm_KpI kan_KpI kcd_KpI kct_KpI), ksl_KpI⟩)
    (kc_KpI : PySem.W.codeIn K kcd_KpI "Kept.__init__" = true)
    (kk_KpI : PySem.W.keepIn K (.ref fK_KpI) = true)
    (kf_KpE : PySem.W.findIn K (.ref CK) "__eq__" = some (some (.ref fK_KpE)))
    (kn_KpE : PySem.W.isFn K (.ref fK_KpE) = true)
    (kl_KpE : K.lookup fK_KpE = some ⟨koc_KpE, kod_KpE, .func (PySem.W.fnOf "__eq__" "Kept.__eq__" (defArgs sKpE) (defBody sKpE) (defScope sKpE) .none kkV_KpE kdc_KpE kpm_KpE kan_KpE kcd_KpE kct_KpE), ksl_KpE⟩)
    (kc_KpE : PySem.W.codeIn K kcd_KpE "Kept.__eq__" = true)
    (kk_KpE : PySem.W.keepIn K (.ref fK_KpE) = true)
    (kf_KpR : PySem.W.findIn K (.ref CK) "back" = some (some (.ref fK_KpR)))
    (kn_KpR : PySem.W.isFn K (.ref fK_KpR) = true)
    (kl_KpR : K.lookup fK_KpR = some ⟨koc_KpR, kod_KpR, .func (PySem.W.fnOf "back" "Kept.back" (defArgs sKpR) (defBody sKpR) (defScope sKpR) .none kkV_KpR kdc_KpR kpm_KpR kan_KpR kcd_KpR kct_KpR), ksl_KpR⟩)
    (kc_KpR : PySem.W.codeIn K kcd_KpR "Kept.back" = true)
    (kk_KpR : PySem.W.keepIn K (.ref fK_KpR) = true)
    (kf_KpC : PySem.W.findIn K (.ref CK) "check_box" = some (some (.ref fK_KpC)))
    (kn_KpC : PySem.W.isFn K (.ref fK_KpC) = true)
    (kl_KpC : K.lookup fK_KpC = some ⟨koc_KpC, kod_KpC, .func (PySem.W.fnOf "check_box" "Kept.check_box" (defArgs sKpC) (defBody sKpC) (defScope sKpC) .none kkV_KpC kdc_KpC kpm_KpC kan_KpC kcd_KpC kct_KpC), ksl_KpC⟩)
    (kc_KpC : PySem.W.codeIn K kcd_KpC "Kept.check_box" = true)
    (kk_KpC : PySem.W.keepIn K (.ref fK_KpC) = true)
    (kf_KpP : PySem.W.findIn K (.ref CK) "opened" = some (some (.ref fK_KpP)))
    (kn_KpP : PySem.W.isFn K (.ref fK_KpP) = true)
    (kl_KpP : K.lookup fK_KpP = some ⟨koc_KpP, kod_KpP, .func (PySem.W.fnOf "opened" "Kept.opened" (defArgs sKpP) (defBody sKpP) (defScope sKpP) .none kkV_KpP kdc_KpP kpm_KpP kan_KpP kcd_KpP kct_KpP), ksl_KpP⟩)
    (kc_KpP : PySem.W.codeIn K kcd_KpP "Kept.opened" = true)
    (kk_KpP : PySem.W.keepIn K (.ref fK_KpP) = true)
    (kf_KpU : PySem.W.findIn K (.ref CK) "check_shut" = some (some (.ref fK_KpU)))
    (kn_KpU : PySem.W.isFn K (.ref fK_KpU) = true)
    (kl_KpU : K.lookup fK_KpU = some ⟨koc_KpU, kod_KpU, .func (PySem.W.fnOf "check_shut" "Kept.check_shut" (defArgs sKpU) (defBody sKpU) (defScope sKpU) .none kkV_KpU kdc_KpU kpm_KpU kan_KpU kcd_KpU kct_KpU), ksl_KpU⟩)
    (kc_KpU : PySem.W.codeIn K kcd_KpU "Kept.check_shut" = true)
    (kk_KpU : PySem.W.keepIn K (.ref fK_KpU) = true)
    (kf_KpN : PySem.W.findIn K (.ref CK) "broken" = some (some (.ref fK_KpN)))
    (kn_KpN : PySem.W.isFn K (.ref fK_KpN) = true)
    (kl_KpN : K.lookup fK_KpN = some ⟨koc_KpN, kod_KpN, .func (PySem.W.fnOf "broken" "Kept.broken" (defArgs sKpN) (defBody sKpN) (defScope sKpN) .none kkV_KpN kdc_KpN kpm_KpN kan_KpN kcd_KpN kct_KpN), ksl_KpN⟩)
    (kc_KpN : PySem.W.codeIn K kcd_KpN "Kept.broken" = true)
    (kk_KpN : PySem.W.keepIn K (.ref fK_KpN) = true)
    (kf_KpK : PySem.W.findIn K (.ref CK) "locks_of" = some (some (.ref fK_KpK)))
    (kn_KpK : PySem.W.isFn K (.ref fK_KpK) = true)
    (kl_KpK : K.lookup fK_KpK = some ⟨koc_KpK, kod_KpK, .func (PySem.W.fnOf "locks_of" "Kept.locks_of" (defArgs sKpK) (defBody sKpK) (defScope sKpK) .none kkV_KpK kdc_KpK kpm_KpK kan_KpK kcd_KpK kct_KpK), ksl_KpK⟩)
    (kc_KpK : PySem.W.codeIn K kcd_KpK "Kept.locks_of" = true)
    (kk_KpK : PySem.W.keepIn K (.ref fK_KpK) = true)
    (kf_KpH : PySem.W.findIn K (.ref CK) "hand" = some (some (.ref fK_KpH)))
    (kn_KpH : PySem.W.isFn K (.ref fK_KpH) = true)
    (kl_KpH : K.lookup fK_KpH = some ⟨koc_KpH, kod_KpH, .func (PySem.W.fnOf "hand" "Kept.hand" (defArgs sKpH) (defBody sKpH) (defScope sKpH) .none kkV_KpH kdc_KpH kpm_KpH kan_KpH kcd_KpH kct_KpH), ksl_KpH⟩)
    (kc_KpH : PySem.W.codeIn K kcd_KpH "Kept.hand" = true)
    (kk_KpH : PySem.W.keepIn K (.ref fK_KpH) = true)
    (kf_KpD : PySem.W.findIn K (.ref CK) "inside" = some (some (.ref fK_KpD)))
    (kn_KpD : PySem.W.isFn K (.ref fK_KpD) = true)
    (kl_KpD : K.lookup fK_KpD = some ⟨koc_KpD, kod_KpD, .func (PySem.W.fnOf "inside" "Kept.inside" (defArgs sKpD) (defBody sKpD) (defScope sKpD) .none kkV_KpD kdc_KpD kpm_KpD kan_KpD kcd_KpD kct_KpD), ksl_KpD⟩)
    (kc_KpD : PySem.W.codeIn K kcd_KpD "Kept.inside" = true)
    (kk_KpD : PySem.W.keepIn K (.ref fK_KpD) = true)
    (kf_KpG : PySem.W.findIn K (.ref CK) "go_on" = some (some (.ref fK_KpG)))
    (kn_KpG : PySem.W.isFn K (.ref fK_KpG) = true)
    (kl_KpG : K.lookup fK_KpG = some ⟨koc_KpG, kod_KpG, .func (PySem.W.fnOf "go_on" "Kept.go_on" (defArgs sKpG) (defBody sKpG) (defScope sKpG) .none kkV_KpG kdc_KpG kpm_KpG kan_KpG kcd_KpG kct_KpG), ksl_KpG⟩)
    (kc_KpG : PySem.W.codeIn K kcd_KpG "Kept.go_on" = true)
    (kk_KpG : PySem.W.keepIn K (.ref fK_KpG) = true)
    (kf_KpF : PySem.W.findIn K (.ref CK) "lift" = some (some (.ref fK_KpF)))
    (kn_KpF : PySem.W.isFn K (.ref fK_KpF) = true)
    (kl_KpF : K.lookup fK_KpF = some ⟨koc_KpF, kod_KpF, .func (PySem.W.fnOf "lift" "Kept.lift" (defArgs sKpF) (defBody sKpF) (defScope sKpF) .none kkV_KpF kdc_KpF kpm_KpF kan_KpF kcd_KpF kct_KpF), ksl_KpF⟩)
    (kc_KpF : PySem.W.codeIn K kcd_KpF "Kept.lift" = true)
    (kk_KpF : PySem.W.keepIn K (.ref fK_KpF) = true)
    (kf_KpO : PySem.W.findIn K (.ref CK) "open_box" = some (some (.ref fK_KpO)))
    (kn_KpO : PySem.W.isFn K (.ref fK_KpO) = true)
    (kl_KpO : K.lookup fK_KpO = some ⟨koc_KpO, kod_KpO, .func (PySem.W.fnOf "open_box" "Kept.open_box" (defArgs sKpO) (defBody sKpO) (defScope sKpO) .none kkV_KpO kdc_KpO kpm_KpO kan_KpO kcd_KpO kct_KpO), ksl_KpO⟩)
    (kc_KpO : PySem.W.codeIn K kcd_KpO "Kept.open_box" = true)
    (kk_KpO : PySem.W.keepIn K (.ref fK_KpO) = true)
    (kf_KpB : PySem.W.findIn K (.ref CK) "break_box" = some (some (.ref fK_KpB)))
    (kn_KpB : PySem.W.isFn K (.ref fK_KpB) = true)
    (kl_KpB : K.lookup fK_KpB = some ⟨koc_KpB, kod_KpB, .func (PySem.W.fnOf "break_box" "Kept.break_box" (defArgs sKpB) (defBody sKpB) (defScope sKpB) .none kkV_KpB kdc_KpB kpm_KpB kan_KpB kcd_KpB kct_KpB), ksl_KpB⟩)
    (kc_KpB : PySem.W.codeIn K kcd_KpB "Kept.break_box" = true)
    (kk_KpB : PySem.W.keepIn K (.ref fK_KpB) = true)
    (kf_KpV : PySem.W.findIn K (.ref CK) "check_open" = some (some (.ref fK_KpV)))
    (kn_KpV : PySem.W.isFn K (.ref fK_KpV) = true)
    (kl_KpV : K.lookup fK_KpV = some ⟨koc_KpV, kod_KpV, .func (PySem.W.fnOf "check_open" "Kept.check_open" (defArgs sKpV) (defBody sKpV) (defScope sKpV) .none kkV_KpV kdc_KpV kpm_KpV kan_KpV kcd_KpV kct_KpV), ksl_KpV⟩)
    (kc_KpV : PySem.W.codeIn K kcd_KpV "Kept.check_open" = true)
    (kk_KpV : PySem.W.keepIn K (.ref fK_KpV) = true)
    (kf_KpS : PySem.W.findIn K (.ref CK) "shut_box" = some (some (.ref fK_KpS)))
    (kn_KpS : PySem.W.isFn K (.ref fK_KpS) = true)
    (kl_KpS : K.lookup fK_KpS = some ⟨koc_KpS, kod_KpS, .func (PySem.W.fnOf "shut_box" "Kept.shut_box" (defArgs sKpS) (defBody sKpS) (defScope sKpS) .none kkV_KpS kdc_KpS kpm_KpS kan_KpS kcd_KpS kct_KpS), ksl_KpS⟩)
    (kc_KpS : PySem.W.codeIn K kcd_KpS "Kept.shut_box" = true)
    (kk_KpS : PySem.W.keepIn K (.ref fK_KpS) = true)
    (kf_KpT : PySem.W.findIn K (.ref CK) "take" = some (some (.ref fK_KpT)))
    (kn_KpT : PySem.W.isFn K (.ref fK_KpT) = true)
    (kl_KpT : K.lookup fK_KpT = some ⟨koc_KpT, kod_KpT, .func (PySem.W.fnOf "take" "Kept.take" (defArgs sKpT) (defBody sKpT) (defScope sKpT) .none kkV_KpT kdc_KpT kpm_KpT kan_KpT kcd_KpT kct_KpT), ksl_KpT⟩)
    (kc_KpT : PySem.W.codeIn K kcd_KpT "Kept.take" = true)
    (kk_KpT : PySem.W.keepIn K (.ref fK_KpT) = true)
    (kf_KpY : PySem.W.findIn K (.ref CK) "lay" = some (some (.ref fK_KpY)))
    (kn_KpY : PySem.W.isFn K (.ref fK_KpY) = true)
    (kl_KpY : K.lookup fK_KpY = some ⟨koc_KpY, kod_KpY, .func (PySem.W.fnOf "lay" "Kept.lay" (defArgs sKpY) (defBody sKpY) (defScope sKpY) .none kkV_KpY kdc_KpY kpm_KpY kan_KpY kcd_KpY kct_KpY), ksl_KpY⟩)
    (kc_KpY : PySem.W.codeIn K kcd_KpY "Kept.lay" = true)
    (kk_KpY : PySem.W.keepIn K (.ref fK_KpY) = true)
    (kf_KpL : PySem.W.findIn K (.ref CK) "__len__" = some (some (.ref fK_KpL)))
    (kn_KpL : PySem.W.isFn K (.ref fK_KpL) = true)
    (kl_KpL : K.lookup fK_KpL = some ⟨koc_KpL, kod_KpL, .func (PySem.W.fnOf "__len__" "Kept.__len__" (defArgs sKpL) (defBody sKpL) (defScope sKpL) .none kkV_KpL kdc_KpL kpm_KpL kan_KpL kcd_KpL kct_KpL), ksl_KpL⟩)
    (kc_KpL : PySem.W.codeIn K kcd_KpL "Kept.__len__" = true)
    (kk_KpL : PySem.W.keepIn K (.ref fK_KpL) = true)
    (kf_KpA : PySem.W.findIn K (.ref CK) "can_all" = some (some (.ref fK_KpA)))
    (kn_KpA : PySem.W.isFn K (.ref fK_KpA) = true)
    (kl_KpA : K.lookup fK_KpA = some ⟨koc_KpA, kod_KpA, .func (PySem.W.fnOf "can_all" "Kept.can_all" (defArgs sKpA) (defBody sKpA) (defScope sKpA) .none kkV_KpA kdc_KpA kpm_KpA kan_KpA kcd_KpA kct_KpA), ksl_KpA⟩)
    (kc_KpA : PySem.W.codeIn K kcd_KpA "Kept.can_all" = true)
    (kk_KpA : PySem.W.keepIn K (.ref fK_KpA) = true)
    (ky_pg : PySem.W.plainGet K CK Str.empty = true)
    (ky_hd : PySem.W.hasDictIn K CK = true)
    (ky_po : PySem.W.plainOver K CK = true)
    (ky_sa : PySem.W.findIn K (.ref CK) "__setattr__" = some (some (.builtin "object.__setattr__")))
    (ky_house : PySem.W.findIn K (.ref CK) "house" = some none)
    (ky_state : PySem.W.findIn K (.ref CK) "state" = some none)
    (ky_past : PySem.W.findIn K (.ref CK) "past" = some none)
    (ky_ca : PySem.W.findIn K (.ref CK) "__class__" = some (some (.builtin "object.__class__")))
    (ky_cm : PySem.W.mroIn K CK (.type "object") = some true)
    (ky_nt : PySem.W.notFirst K CK (.type "tuple") = true)
    (ky_nk : PySem.W.notFirst K CK (.ref CK) = true)
    (ky_ic : PySem.W.isClsIn K CK = true)
    (ky_ty : PySem.W.typeIn K (.ref CK) = some (.type "type"))
    (ky_s1 : PySem.W.subIn K (.ref CK) (.ref CK) = some true)
    (ky_s2 : PySem.W.subIn K (.type "tuple") (.ref CK) = some false)
    (sLT : PySem.W.subIn K (.ref dL) (.ref dT) = some false)
    : LawAtS l w K CX0 20 63 "script" mg fa h := by
  have e := hfa.symm.trans (PySem.W.mg_of X G a31)
  cases e
  have F1 := fun_mk (st := sCell) l1 c1 k1
  have D1 : Df K mg "_law_cell_at" sCell ["script", "k"] f1 _ := ⟨F1, PySem.W.mg_of X G a1, F1.binds fun _ _ _ _ _ _ us hl => match us, hl with | [_, _], _ => rfl⟩
  have F2 := fun_mk (st := sDraw) l2 c2 k2
  have D2 : Df K mg "_law_draws" sDraw ["cell", "many", "size"] f2 _ := ⟨F2, PySem.W.mg_of X G a2, F2.binds fun _ _ _ _ _ _ us hl => match us, hl with | [_, _, _], _ => rfl⟩
  have F3 := fun_mk (st := sBag) l3 c3 k3
  have D3 : Df K mg "_law_bag" sBag ["script", "k"] f3 _ := ⟨F3, PySem.W.mg_of X G a3, F3.binds fun _ _ _ _ _ _ us hl => match us, hl with | [_, _], _ => rfl⟩
  have F4 := fun_mk (st := sBags) l4 c4 k4
  have D4 : Df K mg "_law_bags" sBags ["script", "limit"] f4 _ := ⟨F4, PySem.W.mg_of X G a4, F4.binds fun _ _ _ _ _ _ us hl => match us, hl with | [_, _], _ => rfl⟩
  have F5 := fun_mk (st := sTake) l5 c5 k5
  have D5 : Df K mg "_law_take" sTake ["bag", "many"] f5 _ := ⟨F5, PySem.W.mg_of X G a5, F5.binds fun _ _ _ _ _ _ us hl => match us, hl with | [_, _], _ => rfl⟩
  have F6 := fun_mk (st := sSome) l6 c6 k6
  have D6 : Df K mg "_law_some" sSome ["bag", "most", "wide"] f6 _ := ⟨F6, PySem.W.mg_of X G a6, F6.binds fun _ _ _ _ _ _ us hl => match us, hl with | [_, _, _], _ => rfl⟩
  have F7 := fun_mk (st := sHouse) l7 c7 k7
  have D7 : Df K mg "_law_house" sHouse ["bag", "boxes", "locks", "wide"] f7 _ := ⟨F7, PySem.W.mg_of X G a7, F7.binds fun _ _ _ _ _ _ us hl => match us, hl with | [_, _, _, _], _ => rfl⟩
  have F8 := fun_mk (st := sLFr) l8 c8 k8
  have D8 : Df K mg "_law_from" sLFr ["thing", "least", "top"] f8 _ := ⟨F8, PySem.W.mg_of X G a8, F8.binds fun _ _ _ _ _ _ us hl => match us, hl with | [_, _, _], _ => rfl⟩
  have F9 := fun_mk (st := sLCg) l9 c9 k9
  have D9 : Df K mg "_law_changed" sLCg ["state", "number", "opened", "broken", "inside", "hand"] f9 _ := ⟨F9, PySem.W.mg_of X G a9, F9.binds fun _ _ _ _ _ _ us hl => match us, hl with | [_, _, _, _, _, _], _ => rfl⟩
  have F10 := fun_mk (st := sLLb) l10 c10 k10
  have D10 : Df K mg "_law_laid_by" sLLb ["state", "colour", "number", "many"] f10 _ := ⟨F10, PySem.W.mg_of X G a10, F10.binds fun _ _ _ _ _ _ us hl => match us, hl with | [_, _, _, _], _ => rfl⟩
  have F11 := fun_mk (st := sLOp) l11 c11 k11
  have D11 : Df K mg "_law_opened" sLOp ["house", "state", "number", "force"] f11 _ := ⟨F11, PySem.W.mg_of X G a11, F11.binds fun _ _ _ _ _ _ us hl => match us, hl with | [_, _, _, _], _ => rfl⟩
  have F12 := fun_mk (st := sLAf) l12 c12 k12
  have D12 : Df K mg "_law_after" sLAf ["house", "state", "deed"] f12 _ := ⟨F12, PySem.W.mg_of X G a12, F12.binds fun _ _ _ _ _ _ us hl => match us, hl with | [_, _, _], _ => rfl⟩
  have F13 := fun_mk (st := sLDo) l13 c13 k13
  have D13 : Df K mg "_law_do" sLDo ["kept", "deed"] f13 _ := ⟨F13, PySem.W.mg_of X G a13, F13.binds fun _ _ _ _ _ _ us hl => match us, hl with | [_, _], _ => rfl⟩
  have F14 := fun_mk (st := sLR) l14 c14 k14
  have D14 : Df K mg "_law_rounds" sLR ["boxes", "hand"] f14 _ := ⟨F14, PySem.W.mg_of X G a14, F14.binds fun _ _ _ _ _ _ us hl => match us, hl with | [_, _], _ => rfl⟩
  have F15 := fun_mk (st := sLSt) l15 c15 k15
  have D15 : Df K mg "_law_stands" sLSt ["house", "kept", "state"] f15 _ := ⟨F15, PySem.W.mg_of X G a15, F15.binds fun _ _ _ _ _ _ us hl => match us, hl with | [_, _, _], _ => rfl⟩
  have F16 := fun_mk (st := sPair) l16 c16 k16
  have D16 : Df K mg "is_pair" sPair ["thing"] f16 _ := ⟨F16, PySem.W.mg_of X G a16, F16.binds fun _ _ _ _ _ _ us hl => match us, hl with | [_], _ => rfl⟩
  have F17 := fun_mk (st := sCols) l17 c17 k17
  have D17 : Df K mg "is_colours" sCols ["thing", "most"] f17 _ := ⟨F17, PySem.W.mg_of X G a17, F17.binds fun _ _ _ _ _ _ us hl => match us, hl with | [_, _], _ => rfl⟩
  have F18 := fun_mk (st := sBox) l18 c18 k18
  have D18 : Df K mg "is_box" sBox ["thing"] f18 _ := ⟨F18, PySem.W.mg_of X G a18, F18.binds fun _ _ _ _ _ _ us hl => match us, hl with | [_], _ => rfl⟩
  have F19 := fun_mk (st := sIsH) l19 c19 k19
  have D19 : Df K mg "is_house" sIsH ["thing"] f19 _ := ⟨F19, PySem.W.mg_of X G a19, F19.binds fun _ _ _ _ _ _ us hl => match us, hl with | [_], _ => rfl⟩
  have F20 := fun_mk (st := sChk) l20 c20 k20
  have D20 : Df K mg "check_house" sChk ["house"] f20 _ := ⟨F20, PySem.W.mg_of X G a20, F20.binds fun _ _ _ _ _ _ us hl => match us, hl with | [_], _ => rfl⟩
  have F21 := fun_mk (st := sWho) l21 c21 k21
  have D21 : Df K mg "is_whole" sWho ["thing"] f21 _ := ⟨F21, PySem.W.mg_of X G a21, F21.binds fun _ _ _ _ _ _ us hl => match us, hl with | [_], _ => rfl⟩
  have F22 := fun_mk (st := sPlc) l22 c22 k22
  have D22 : Df K mg "is_place" sPlc ["thing", "many"] f22 _ := ⟨F22, PySem.W.mg_of X G a22, F22.binds fun _ _ _ _ _ _ us hl => match us, hl with | [_, _], _ => rfl⟩
  have F23 := fun_mk (st := sJn) l23 c23 k23
  have D23 : Df K mg "joined" sJn ["row", "more"] f23 _ := ⟨F23, PySem.W.mg_of X G a23, F23.binds fun _ _ _ _ _ _ us hl => match us, hl with | [_, _], _ => rfl⟩
  have F24 := fun_mk (st := sChg) l24 c24 k24
  have D24 : Df K mg "changed" sChg ["row", "place", "part"] f24 _ := ⟨F24, PySem.W.mg_of X G a24, F24.binds fun _ _ _ _ _ _ us hl => match us, hl with | [_, _, _], _ => rfl⟩
  have F25 := fun_mk (st := sWo) l25 c25 k25
  have D25 : Df K mg "without" sWo ["row", "gone"] f25 _ := ⟨F25, PySem.W.mg_of X G a25, F25.binds fun _ _ _ _ _ _ us hl => match us, hl with | [_, _], _ => rfl⟩
  have F26 := fun_mk (st := sKeys) l26 c26 k26
  have D26 : Df K mg "keys_in" sKeys ["boxes", "some"] f26 _ := ⟨F26, PySem.W.mg_of X G a26, F26.binds fun _ _ _ _ _ _ us hl => match us, hl with | [_, _], _ => rfl⟩
  have F27 := fun_mk (st := sFits) l27 c27 k27
  have D27 : Df K mg "fits" sFits ["locks", "held"] f27 _ := ⟨F27, PySem.W.mg_of X G a27, F27.binds fun _ _ _ _ _ _ us hl => match us, hl with | [_, _], _ => rfl⟩
  have F28 := fun_mk (st := sOpn) l28 c28 k28
  have D28 : Df K mg "opened_in_rounds" sOpn ["boxes", "held", "closed"] f28 _ := ⟨F28, PySem.W.mg_of X G a28, F28.binds fun _ _ _ _ _ _ us hl => match us, hl with | [_, _, _], _ => rfl⟩
  have F29 := fun_mk (st := sShB) l29 c29 k29
  have D29 : Df K mg "shut_boxes" sShB ["boxes", "hand", "broken"] f29 _ := ⟨F29, PySem.W.mg_of X G a29, F29.binds fun _ _ _ _ _ _ us hl => match us, hl with | [_, _, _], _ => rfl⟩
  have F30 := fun_mk (st := sRef) l30 c30 k30
  have D30 : Df K mg "_law_refused" sRef ["call", "one", "two", "three"] f30 _ := ⟨F30, PySem.W.mg_of X G a30, F30.binds fun _ _ _ _ _ _ us hl => match us, hl with | [_, _, _, _], _ => rfl⟩
  have F31 := fun_mk (st := sLaw) l31 c31 k31
  have B : Bu mg := ⟨PySem.W.mg_none_of X G z_isi, PySem.W.mg_none_of X G z_tup, PySem.W.mg_none_of X G z_lst, PySem.W.mg_none_of X G z_str, PySem.W.mg_none_of X G z_len, PySem.W.mg_none_of X G z_all, PySem.W.mg_none_of X G z_zip, PySem.W.mg_none_of X G z_rng, PySem.W.mg_none_of X G z_int, PySem.W.mg_none_of X G z_max, PySem.W.mg_none_of X G z_min, PySem.W.mg_none_of X G z_srt, PySem.W.mg_none_of X G z_enu, PySem.W.mg_none_of X G z_sum, PySem.W.mg_none_of X G z_abs, PySem.W.mg_none_of X G z_rpr, PySem.W.mg_none_of X G z_set, PySem.W.mg_none_of X G z_bool, PySem.W.mg_none_of X G z_ver, PySem.W.mg_none_of X G z_any⟩
  have n_MOST_LETTERS := PySem.W.mg_of X G m_MOST_LETTERS
  have n_SMALL_LETTERS := PySem.W.mg_of X G m_SMALL_LETTERS
  have n_MOST_BOXES := PySem.W.mg_of X G m_MOST_BOXES
  have n_MOST_LOCKS := PySem.W.mg_of X G m_MOST_LOCKS
  have n_MOST_KEYS := PySem.W.mg_of X G m_MOST_KEYS
  have C_NoHouse : ClsT K mg "NoHouse" d0 := ⟨PySem.W.mg_of X G e_NoHouse, i_NoHouse, t_NoHouse, b_NoHouse, h_NoHouse⟩
  have C_NoColour : ClsT K mg "NoColour" d1 := ⟨PySem.W.mg_of X G e_NoColour, i_NoColour, t_NoColour, b_NoColour, h_NoColour⟩
  have C_NoRow : ClsT K mg "NoRow" d2 := ⟨PySem.W.mg_of X G e_NoRow, i_NoRow, t_NoRow, b_NoRow, h_NoRow⟩
  have C_NoBoxes : ClsT K mg "NoBoxes" d3 := ⟨PySem.W.mg_of X G e_NoBoxes, i_NoBoxes, t_NoBoxes, b_NoBoxes, h_NoBoxes⟩
  have C_NoLaying : ClsT K mg "NoLaying" d4 := ⟨PySem.W.mg_of X G e_NoLaying, i_NoLaying, t_NoLaying, b_NoLaying, h_NoLaying⟩
  have C_NoNumber : ClsT K mg "NoNumber" d5 := ⟨PySem.W.mg_of X G e_NoNumber, i_NoNumber, t_NoNumber, b_NoNumber, h_NoNumber⟩
  have C_NoBox : ClsT K mg "NoBox" d6 := ⟨PySem.W.mg_of X G e_NoBox, i_NoBox, t_NoBox, b_NoBox, h_NoBox⟩
  have C_NoKey : ClsT K mg "NoKey" d7 := ⟨PySem.W.mg_of X G e_NoKey, i_NoKey, t_NoKey, b_NoKey, h_NoKey⟩
  have C_Locks : ClsT K mg "Locks" d8 := ⟨PySem.W.mg_of X G e_Locks, i_Locks, t_Locks, b_Locks, h_Locks⟩
  have C_Unlike : ClsT K mg "Unlike" d9 := ⟨PySem.W.mg_of X G e_Unlike, i_Unlike, t_Unlike, b_Unlike, h_Unlike⟩
  have C_Open : ClsT K mg "Open" d10 := ⟨PySem.W.mg_of X G e_Open, i_Open, t_Open, b_Open, h_Open⟩
  have C_Shut : ClsT K mg "Shut" d11 := ⟨PySem.W.mg_of X G e_Shut, i_Shut, t_Shut, b_Shut, h_Shut⟩
  have C_Full : ClsT K mg "Full" d12 := ⟨PySem.W.mg_of X G e_Full, i_Full, t_Full, b_Full, h_Full⟩
  have C_NothingLeft : ClsT K mg "NothingLeft" d13 := ⟨PySem.W.mg_of X G e_NothingLeft, i_NothingLeft, t_NothingLeft, b_NothingLeft, h_NothingLeft⟩
  have C_TooMany : ClsT K mg "TooMany" dT := ⟨PySem.W.mg_of X G e_TooMany, i_TooMany, t_TooMany, b_TooMany, h_TooMany⟩
  have C_Locked : ClsT K mg "Locked" dL := ⟨PySem.W.mg_of X G e_Locked, i_Locked, t_Locked, b_Locked, h_Locked⟩
  have C_BoxError : ClsT K mg "BoxError" dB := ⟨PySem.W.mg_of X G e_BoxError, i_BoxError, t_BoxError, b_BoxError, h_BoxError⟩
  have hC : ∀ i, i < 14 → ClsT K mg (nmC i) ([d0, d1, d2, d3, d4, d5, d6, d7, d8, d9, d10, d11, d12, d13].getD i d0) := fun i hi => match i, hi with | 0, _ => C_NoHouse | 1, _ => C_NoColour | 2, _ => C_NoRow | 3, _ => C_NoBoxes | 4, _ => C_NoLaying | 5, _ => C_NoNumber | 6, _ => C_NoBox | 7, _ => C_NoKey | 8, _ => C_Locks | 9, _ => C_Unlike | 10, _ => C_Open | 11, _ => C_Shut | 12, _ => C_Full | 13, _ => C_NothingLeft | i + 14, hi => absurd hi (by omega)
  have R_NoHouse : RaiseT K d0 := ⟨v_NoHouse, ⟨w1_NoHouse, w2_NoHouse, b_NoHouse, h_NoHouse, w5_NoHouse, w6, w7, w8_NoHouse⟩, xq_NoHouse, xk_NoHouse⟩
  have E_NoHouse := R_NoHouse.exc C_NoHouse
  have T_NoHouse : RefT K mg d0 (fun i => [d0, d1, d2, d3, d4, d5, d6, d7, d8, d9, d10, d11, d12, d13].getD i d0) (fun i => decide (i = 0)) dT dL dB := refT_of R_NoHouse C_TooMany C_Locked C_BoxError hC s_NoHouse_TooMany s_NoHouse_Locked s_NoHouse_BoxError (fun i hi => match i, hi with | 0, _ => ⟨s_NoHouse_NoHouse, .inl rfl⟩ | 1, _ => ⟨s_NoHouse_NoColour, .inr n_NoHouse_NoColour⟩ | 2, _ => ⟨s_NoHouse_NoRow, .inr n_NoHouse_NoRow⟩ | 3, _ => ⟨s_NoHouse_NoBoxes, .inr n_NoHouse_NoBoxes⟩ | 4, _ => ⟨s_NoHouse_NoLaying, .inr n_NoHouse_NoLaying⟩ | 5, _ => ⟨s_NoHouse_NoNumber, .inr n_NoHouse_NoNumber⟩ | 6, _ => ⟨s_NoHouse_NoBox, .inr n_NoHouse_NoBox⟩ | 7, _ => ⟨s_NoHouse_NoKey, .inr n_NoHouse_NoKey⟩ | 8, _ => ⟨s_NoHouse_Locks, .inr n_NoHouse_Locks⟩ | 9, _ => ⟨s_NoHouse_Unlike, .inr n_NoHouse_Unlike⟩ | 10, _ => ⟨s_NoHouse_Open, .inr n_NoHouse_Open⟩ | 11, _ => ⟨s_NoHouse_Shut, .inr n_NoHouse_Shut⟩ | 12, _ => ⟨s_NoHouse_Full, .inr n_NoHouse_Full⟩ | 13, _ => ⟨s_NoHouse_NothingLeft, .inr n_NoHouse_NothingLeft⟩ | i + 14, hi => absurd hi (by omega)) B.isi B.ver
  have R_NoBox : RaiseT K d6 := ⟨v_NoBox, ⟨w1_NoBox, w2_NoBox, b_NoBox, h_NoBox, w5_NoBox, w6, w7, w8_NoBox⟩, xq_NoBox, xk_NoBox⟩
  have E_NoBox := R_NoBox.exc C_NoBox
  have T_NoBox : RefT K mg d6 (fun i => [d0, d1, d2, d3, d4, d5, d6, d7, d8, d9, d10, d11, d12, d13].getD i d0) (fun i => decide (i = 6)) dT dL dB := refT_of R_NoBox C_TooMany C_Locked C_BoxError hC s_NoBox_TooMany s_NoBox_Locked s_NoBox_BoxError (fun i hi => match i, hi with | 0, _ => ⟨s_NoBox_NoHouse, .inr n_NoBox_NoHouse⟩ | 1, _ => ⟨s_NoBox_NoColour, .inr n_NoBox_NoColour⟩ | 2, _ => ⟨s_NoBox_NoRow, .inr n_NoBox_NoRow⟩ | 3, _ => ⟨s_NoBox_NoBoxes, .inr n_NoBox_NoBoxes⟩ | 4, _ => ⟨s_NoBox_NoLaying, .inr n_NoBox_NoLaying⟩ | 5, _ => ⟨s_NoBox_NoNumber, .inr n_NoBox_NoNumber⟩ | 6, _ => ⟨s_NoBox_NoBox, .inl rfl⟩ | 7, _ => ⟨s_NoBox_NoKey, .inr n_NoBox_NoKey⟩ | 8, _ => ⟨s_NoBox_Locks, .inr n_NoBox_Locks⟩ | 9, _ => ⟨s_NoBox_Unlike, .inr n_NoBox_Unlike⟩ | 10, _ => ⟨s_NoBox_Open, .inr n_NoBox_Open⟩ | 11, _ => ⟨s_NoBox_Shut, .inr n_NoBox_Shut⟩ | 12, _ => ⟨s_NoBox_Full, .inr n_NoBox_Full⟩ | 13, _ => ⟨s_NoBox_NothingLeft, .inr n_NoBox_NothingLeft⟩ | i + 14, hi => absurd hi (by omega)) B.isi B.ver
  have R_NoKey : RaiseT K d7 := ⟨v_NoKey, ⟨w1_NoKey, w2_NoKey, b_NoKey, h_NoKey, w5_NoKey, w6, w7, w8_NoKey⟩, xq_NoKey, xk_NoKey⟩
  have E_NoKey := R_NoKey.exc C_NoKey
  have T_NoKey : RefT K mg d7 (fun i => [d0, d1, d2, d3, d4, d5, d6, d7, d8, d9, d10, d11, d12, d13].getD i d0) (fun i => decide (i = 7)) dT dL dB := refT_of R_NoKey C_TooMany C_Locked C_BoxError hC s_NoKey_TooMany s_NoKey_Locked s_NoKey_BoxError (fun i hi => match i, hi with | 0, _ => ⟨s_NoKey_NoHouse, .inr n_NoKey_NoHouse⟩ | 1, _ => ⟨s_NoKey_NoColour, .inr n_NoKey_NoColour⟩ | 2, _ => ⟨s_NoKey_NoRow, .inr n_NoKey_NoRow⟩ | 3, _ => ⟨s_NoKey_NoBoxes, .inr n_NoKey_NoBoxes⟩ | 4, _ => ⟨s_NoKey_NoLaying, .inr n_NoKey_NoLaying⟩ | 5, _ => ⟨s_NoKey_NoNumber, .inr n_NoKey_NoNumber⟩ | 6, _ => ⟨s_NoKey_NoBox, .inr n_NoKey_NoBox⟩ | 7, _ => ⟨s_NoKey_NoKey, .inl rfl⟩ | 8, _ => ⟨s_NoKey_Locks, .inr n_NoKey_Locks⟩ | 9, _ => ⟨s_NoKey_Unlike, .inr n_NoKey_Unlike⟩ | 10, _ => ⟨s_NoKey_Open, .inr n_NoKey_Open⟩ | 11, _ => ⟨s_NoKey_Shut, .inr n_NoKey_Shut⟩ | 12, _ => ⟨s_NoKey_Full, .inr n_NoKey_Full⟩ | 13, _ => ⟨s_NoKey_NothingLeft, .inr n_NoKey_NothingLeft⟩ | i + 14, hi => absurd hi (by omega)) B.isi B.ver
  have R_Open : RaiseT K d10 := ⟨v_Open, ⟨w1_Open, w2_Open, b_Open, h_Open, w5_Open, w6, w7, w8_Open⟩, xq_Open, xk_Open⟩
  have E_Open := R_Open.exc C_Open
  have T_Open : RefT K mg d10 (fun i => [d0, d1, d2, d3, d4, d5, d6, d7, d8, d9, d10, d11, d12, d13].getD i d0) (fun i => decide (i = 10)) dT dL dB := refT_of R_Open C_TooMany C_Locked C_BoxError hC s_Open_TooMany s_Open_Locked s_Open_BoxError (fun i hi => match i, hi with | 0, _ => ⟨s_Open_NoHouse, .inr n_Open_NoHouse⟩ | 1, _ => ⟨s_Open_NoColour, .inr n_Open_NoColour⟩ | 2, _ => ⟨s_Open_NoRow, .inr n_Open_NoRow⟩ | 3, _ => ⟨s_Open_NoBoxes, .inr n_Open_NoBoxes⟩ | 4, _ => ⟨s_Open_NoLaying, .inr n_Open_NoLaying⟩ | 5, _ => ⟨s_Open_NoNumber, .inr n_Open_NoNumber⟩ | 6, _ => ⟨s_Open_NoBox, .inr n_Open_NoBox⟩ | 7, _ => ⟨s_Open_NoKey, .inr n_Open_NoKey⟩ | 8, _ => ⟨s_Open_Locks, .inr n_Open_Locks⟩ | 9, _ => ⟨s_Open_Unlike, .inr n_Open_Unlike⟩ | 10, _ => ⟨s_Open_Open, .inl rfl⟩ | 11, _ => ⟨s_Open_Shut, .inr n_Open_Shut⟩ | 12, _ => ⟨s_Open_Full, .inr n_Open_Full⟩ | 13, _ => ⟨s_Open_NothingLeft, .inr n_Open_NothingLeft⟩ | i + 14, hi => absurd hi (by omega)) B.isi B.ver
  have R_Shut : RaiseT K d11 := ⟨v_Shut, ⟨w1_Shut, w2_Shut, b_Shut, h_Shut, w5_Shut, w6, w7, w8_Shut⟩, xq_Shut, xk_Shut⟩
  have E_Shut := R_Shut.exc C_Shut
  have T_Shut : RefT K mg d11 (fun i => [d0, d1, d2, d3, d4, d5, d6, d7, d8, d9, d10, d11, d12, d13].getD i d0) (fun i => decide (i = 11)) dT dL dB := refT_of R_Shut C_TooMany C_Locked C_BoxError hC s_Shut_TooMany s_Shut_Locked s_Shut_BoxError (fun i hi => match i, hi with | 0, _ => ⟨s_Shut_NoHouse, .inr n_Shut_NoHouse⟩ | 1, _ => ⟨s_Shut_NoColour, .inr n_Shut_NoColour⟩ | 2, _ => ⟨s_Shut_NoRow, .inr n_Shut_NoRow⟩ | 3, _ => ⟨s_Shut_NoBoxes, .inr n_Shut_NoBoxes⟩ | 4, _ => ⟨s_Shut_NoLaying, .inr n_Shut_NoLaying⟩ | 5, _ => ⟨s_Shut_NoNumber, .inr n_Shut_NoNumber⟩ | 6, _ => ⟨s_Shut_NoBox, .inr n_Shut_NoBox⟩ | 7, _ => ⟨s_Shut_NoKey, .inr n_Shut_NoKey⟩ | 8, _ => ⟨s_Shut_Locks, .inr n_Shut_Locks⟩ | 9, _ => ⟨s_Shut_Unlike, .inr n_Shut_Unlike⟩ | 10, _ => ⟨s_Shut_Open, .inr n_Shut_Open⟩ | 11, _ => ⟨s_Shut_Shut, .inl rfl⟩ | 12, _ => ⟨s_Shut_Full, .inr n_Shut_Full⟩ | 13, _ => ⟨s_Shut_NothingLeft, .inr n_Shut_NothingLeft⟩ | i + 14, hi => absurd hi (by omega)) B.isi B.ver
  have R_Full : RaiseT K d12 := ⟨v_Full, ⟨w1_Full, w2_Full, b_Full, h_Full, w5_Full, w6, w7, w8_Full⟩, xq_Full, xk_Full⟩
  have E_Full := R_Full.exc C_Full
  have T_Full : RefT K mg d12 (fun i => [d0, d1, d2, d3, d4, d5, d6, d7, d8, d9, d10, d11, d12, d13].getD i d0) (fun i => decide (i = 12)) dT dL dB := refT_of R_Full C_TooMany C_Locked C_BoxError hC s_Full_TooMany s_Full_Locked s_Full_BoxError (fun i hi => match i, hi with | 0, _ => ⟨s_Full_NoHouse, .inr n_Full_NoHouse⟩ | 1, _ => ⟨s_Full_NoColour, .inr n_Full_NoColour⟩ | 2, _ => ⟨s_Full_NoRow, .inr n_Full_NoRow⟩ | 3, _ => ⟨s_Full_NoBoxes, .inr n_Full_NoBoxes⟩ | 4, _ => ⟨s_Full_NoLaying, .inr n_Full_NoLaying⟩ | 5, _ => ⟨s_Full_NoNumber, .inr n_Full_NoNumber⟩ | 6, _ => ⟨s_Full_NoBox, .inr n_Full_NoBox⟩ | 7, _ => ⟨s_Full_NoKey, .inr n_Full_NoKey⟩ | 8, _ => ⟨s_Full_Locks, .inr n_Full_Locks⟩ | 9, _ => ⟨s_Full_Unlike, .inr n_Full_Unlike⟩ | 10, _ => ⟨s_Full_Open, .inr n_Full_Open⟩ | 11, _ => ⟨s_Full_Shut, .inr n_Full_Shut⟩ | 12, _ => ⟨s_Full_Full, .inl rfl⟩ | 13, _ => ⟨s_Full_NothingLeft, .inr n_Full_NothingLeft⟩ | i + 14, hi => absurd hi (by omega)) B.isi B.ver
  have R_NothingLeft : RaiseT K d13 := ⟨v_NothingLeft, ⟨w1_NothingLeft, w2_NothingLeft, b_NothingLeft, h_NothingLeft, w5_NothingLeft, w6, w7, w8_NothingLeft⟩, xq_NothingLeft, xk_NothingLeft⟩
  have E_NothingLeft := R_NothingLeft.exc C_NothingLeft
  have T_NothingLeft : RefT K mg d13 (fun i => [d0, d1, d2, d3, d4, d5, d6, d7, d8, d9, d10, d11, d12, d13].getD i d0) (fun i => decide (i = 13)) dT dL dB := refT_of R_NothingLeft C_TooMany C_Locked C_BoxError hC s_NothingLeft_TooMany s_NothingLeft_Locked s_NothingLeft_BoxError (fun i hi => match i, hi with | 0, _ => ⟨s_NothingLeft_NoHouse, .inr n_NothingLeft_NoHouse⟩ | 1, _ => ⟨s_NothingLeft_NoColour, .inr n_NothingLeft_NoColour⟩ | 2, _ => ⟨s_NothingLeft_NoRow, .inr n_NothingLeft_NoRow⟩ | 3, _ => ⟨s_NothingLeft_NoBoxes, .inr n_NothingLeft_NoBoxes⟩ | 4, _ => ⟨s_NothingLeft_NoLaying, .inr n_NothingLeft_NoLaying⟩ | 5, _ => ⟨s_NothingLeft_NoNumber, .inr n_NothingLeft_NoNumber⟩ | 6, _ => ⟨s_NothingLeft_NoBox, .inr n_NothingLeft_NoBox⟩ | 7, _ => ⟨s_NothingLeft_NoKey, .inr n_NothingLeft_NoKey⟩ | 8, _ => ⟨s_NothingLeft_Locks, .inr n_NothingLeft_Locks⟩ | 9, _ => ⟨s_NothingLeft_Unlike, .inr n_NothingLeft_Unlike⟩ | 10, _ => ⟨s_NothingLeft_Open, .inr n_NothingLeft_Open⟩ | 11, _ => ⟨s_NothingLeft_Shut, .inr n_NothingLeft_Shut⟩ | 12, _ => ⟨s_NothingLeft_Full, .inr n_NothingLeft_Full⟩ | 13, _ => ⟨s_NothingLeft_NothingLeft, .inl rfl⟩ | i + 14, hi => absurd hi (by omega)) B.isi B.ver
  refine ⟨PySem.W.fnOf "law" "law" (defArgs sLaw) (defBody sLaw) (defScope sLaw) .none kV31 dc31 pm31 an31 (.ref c_Law) ct31, [(c_Law, Pt_Law)], spLawX K [(Pt_Law, lamQ_Law)], (fun p hp => ?_), (fun p hp => ?_), (fun p hp => ?_), fun s v => .of_eq rfl, (fun H a ns hl _ hH hS => ⟨a, ns, rfl, hS, hl, (fun p hp => ?_), fun _ => rfl⟩), fun base _ _ TB => ?_⟩
  ·
    rw [List.mem_singleton.mp hp]
    exact tab_Law
  ·
    rw [List.mem_singleton.mp hp]
    exact tn_Law
  ·
    rw [List.mem_singleton.mp hp]
    exact PySem.W.codeHd_of_K X (codeHd_by tl_Law th_Law)
  ·
    rw [List.mem_singleton.mp hp]
    exact TabS.nil (hH (c_Law, Pt_Law) (by simp))
  have TB_Law := TB (c_Law, Pt_Law) (by simp)
  have g1 : ∀ k : Nat, FnOk l.prog w K mg base CX0 (k + 1) f1 _ ["script", "k"] (spCell K) := fun k => ok_cell F1   B
  have g2 : ∀ k : Nat, FnOk l.prog w K mg base CX0 (k + 1) f2 _ ["cell", "many", "size"] (spDraw K) := fun k => ok_draw F2   B B
  have g3 : ∀ k : Nat, FnOk l.prog w K mg base CX0 (k + 2) f3 _ ["script", "k"] (spBag K) := fun k => ok_bag F3 D1 D2 (g1 k) (g2 k) 
  have g4 : ∀ k : Nat, FnOk l.prog w K mg base CX0 (k + 3) f4 _ ["script", "limit"] (spBags K 6) := fun k => ok_bags (by decide) F4 B B D3 (g3 k)
  have g5 : ∀ k : Nat, FnOk l.prog w K mg base CX0 (k + 1) f5 _ ["bag", "many"] (spTake K) := fun k => ok_take F5   B
  have g6 : ∀ k : Nat, FnOk l.prog w K mg base CX0 (k + 2) f6 _ ["bag", "most", "wide"] (spSome K) := fun k => ok_some F6 B B D5 (g5 k)
  have g7 : ∀ k : Nat, FnOk l.prog w K mg base CX0 (k + 3) f7 _ ["bag", "boxes", "locks", "wide"] (spHs K) := fun k => ok_hs F7 B D5 D6 (g5 k) (g6 k)
  have g8 : ∀ k : Nat, FnOk l.prog w K mg base CX0 (k + 1) f8 _ ["thing", "least", "top"] (spLFr K) := fun k => ok_LFr F8   B
  have g9 : ∀ k : Nat, FnOk l.prog w K mg base CX0 (k + 1) f9 _ ["state", "number", "opened", "broken", "inside", "hand"] (spLCg K) := fun k => ok_LCg F9   B
  have g10 : ∀ k : Nat, FnOk l.prog w K mg base CX0 (k + 2) f10 _ ["state", "colour", "number", "many"] (spLLb K) := fun k => ok_LLb F10 D8 D9 (g8 k) (g9 k) B
  have g11 : ∀ k : Nat, FnOk l.prog w K mg base CX0 (k + 2) f11 _ ["house", "state", "number", "force"] (spLOp K) := fun k => ok_LOp F11 D9 (g9 k) B
  have g12 : ∀ k : Nat, FnOk l.prog w K mg base CX0 (k + 3) f12 _ ["house", "state", "deed"] (spLAf K) := fun k => ok_LAf F12 D10 D8 D11 D9 (g10 k) (g8 k) (g11 k) (g9 k) B
  have g14 : ∀ k : Nat, FnOk l.prog w K mg base CX0 (k + 1) f14 _ ["boxes", "hand"] (spLRg K) := fun k => ok_LRg F14 B B.enu
  have g16 : ∀ k : Nat, FnOk l.prog w K mg base CX0 (k + 1) f16 _ ["thing"] (spPair K) := fun k => ok_pair F16   B
  have g17 : ∀ k : Nat, FnOk l.prog w K mg base CX0 (k + 1) f17 _ ["thing", "most"] (spCols K) := fun k => ok_cols F17   B n_MOST_LETTERS n_SMALL_LETTERS
  have g18 : ∀ k : Nat, FnOk l.prog w K mg base CX0 (k + 2) f18 _ ["thing"] (spBox K) := fun k => ok_box F18 D16 D17 (g16 k) (g17 k) n_MOST_LOCKS n_MOST_KEYS
  have g19 : ∀ k : Nat, FnOk l.prog w K mg base CX0 (k + 3) f19 _ ["thing"] (spIsH K) := fun k => ok_isH F19 D16 D17 D18 (g16 k) (g17 k) (g18 k) B n_MOST_BOXES n_MOST_KEYS
  have g20 : ∀ k : Nat, FnOk l.prog w K mg base CX0 (k + 4) f20 _ ["house"] (spChk K) := fun k => ok_chk F20 D19 (g19 k) 
  have g21 : ∀ k : Nat, FnOk l.prog w K mg base CX0 (k + 1) f21 _ ["thing"] (spWho K) := fun k => ok_who F21   B
  have g22 : ∀ k : Nat, FnOk l.prog w K mg base CX0 (k + 2) f22 _ ["thing", "many"] (spPlc K) := fun k => ok_plc F22 D21 (g21 k) 
  have g24 : ∀ k : Nat, FnOk l.prog w K mg base CX0 (k + 1) f24 _ ["row", "place", "part"] (spChg K) := fun k => ok_chg F24   
  have g25 : ∀ k : Nat, FnOk l.prog w K mg base CX0 (k + 1) f25 _ ["row", "gone"] (spWo K) := fun k => ok_wo F25   B
  have g26 : ∀ k : Nat, FnOk l.prog w K mg base CX0 (k + 1) f26 _ ["boxes", "some"] (spKeys K) := fun k => ok_keys F26   
  have g27 : ∀ k : Nat, FnOk l.prog w K mg base CX0 (k + 1) f27 _ ["locks", "held"] (spFits K) := fun k => ok_fits F27   
  have g28 : ∀ k : Nat, FnOk l.prog w K mg base CX0 (k + 2) f28 _ ["boxes", "held", "closed"] (spOpn K) := fun k => ok_opn F28 D26 D27 (g26 k) (g27 k) B
  have g29 : ∀ k : Nat, FnOk l.prog w K mg base CX0 (k + 3) f29 _ ["boxes", "hand", "broken"] (spShB K) := fun k => ok_shB F29 D26 D28 (g26 k) (g28 k) B
  have O_Locked : OexC K dL := ⟨⟨_, _, _, _, _, _, _, _, _, _, _, _, _, _, _, cl_Locked, rv_Locked⟩, sa_Locked, b_Locked, t_Locked, xk_Locked⟩
  have FI_Locked := fun_mk (st := sLkI) il_Locked ic_Locked ik_Locked
  have I_Locked : IniT K mg "Locked" "colour" dL fI_Locked _ := ⟨O_Locked, in_Locked, ity_Locked, C_Locked.g, FI_Locked.binds fun _ _ _ _ _ _ us hl => match us, hl with | [_, _], _ => rfl⟩
  have X_Locked : FldT K dL "colour" := ⟨⟨w1_Locked, w2_Locked, b_Locked, h_Locked⟩, no_Locked, ⟨w1_Locked, w2_Locked, b_Locked, h_Locked, w5_Locked, w6, w7, w8_Locked⟩, kit_val v_Locked⟩
  have gI_Locked : ∀ k : Nat, FnOk l.prog w K mg base CX0 (k + 1) fI_Locked _ ["self", "colour"] (spIni dL "colour") := fun k => ok_lki FI_Locked O_Locked no_Locked
  have CLS : KCls K mg CK := ⟨⟨ky_pg, ky_hd, ky_po, ky_sa⟩, ky_house, ky_state, ky_past, PySem.W.mg_of X G e_Kept, ky_ca, w6, w7, ky_cm, ky_nt, ky_nk, kit_ref ky_ic ky_ty ky_s1 (.inl rfl), kit_ref ky_ic ky_ty ky_s2 (.inr rfl)⟩
  have gJnS : ∀ k : Nat, FnOk l.prog w K mg base CX0 (k + 1) f23 _ ["row", "more"] (spJnS K) := fun k => ok_jnS F23 B
  have gJnN : ∀ k : Nat, FnOk l.prog w K mg base CX0 (k + 1) f23 _ ["row", "more"] (spJnN K) := fun k => ok_jnN F23 B
  have gWoN : ∀ k : Nat, FnOk l.prog w K mg base CX0 (k + 1) f25 _ ["row", "gone"] (spWoN K) := fun k => ok_woN F25 B
  have gChkE : ∀ k : Nat, FnOk l.prog w K mg base (L2N.CX l.prog w) (k + 4) f20 _ ["house"] (spChkE K (fun i => [d0, d1, d2, d3, d4, d5, d6, d7, d8, d9, d10, d11, d12, d13].getD i d0)) := fun k => ok_chkE F20 D19 (g19 k) E_NoHouse
  have FK_KpI := fun_mk (st := sKpI) kl_KpI kc_KpI kk_KpI
  have BI := FK_KpI.binds (ps := ["self", "house"]) fun _ _ _ _ _ _ us hl => match us, hl with | [_, _], _ => rfl
  have xKpI : ∀ k : Nat, FnOk l.prog w K mg base (L2N.CX l.prog w) (k + 5) fK_KpI _ ["self", "house"] (spKpI K CK (fun i => [d0, d1, d2, d3, d4, d5, d6, d7, d8, d9, d10, d11, d12, d13].getD i d0) dL) := fun k => ok_kpI FK_KpI CLS D20 (gChkE k) B
  have FK_KpE := fun_mk (st := sKpE) kl_KpE kc_KpE kk_KpE
  have mKpE : MetD K CK "__eq__" sKpE ["self", "other"] fK_KpE _ := ⟨⟨kf_KpE, kn_KpE, kk_KpE⟩, FK_KpE.binds fun _ _ _ _ _ _ us hl => match us, hl with | [_, _], _ => rfl⟩
  have xKpE : ∀ k : Nat, FnOk l.prog w K mg base (L2N.CX l.prog w) (k + 1) fK_KpE _ ["self", "other"] (spKpE K CK (fun i => [d0, d1, d2, d3, d4, d5, d6, d7, d8, d9, d10, d11, d12, d13].getD i d0) dL) := fun k => ok_kpE FK_KpE CLS  B
  have FK_KpR := fun_mk (st := sKpR) kl_KpR kc_KpR kk_KpR
  have mKpR : MetD K CK "back" sKpR ["self"] fK_KpR _ := ⟨⟨kf_KpR, kn_KpR, kk_KpR⟩, FK_KpR.binds fun _ _ _ _ _ _ us hl => match us, hl with | [_], _ => rfl⟩
  have xKpR : ∀ k : Nat, FnOk l.prog w K mg base (L2N.CX l.prog w) (k + 1) fK_KpR _ ["self"] (spKpR K CK (fun i => [d0, d1, d2, d3, d4, d5, d6, d7, d8, d9, d10, d11, d12, d13].getD i d0) dL) := fun k => ok_kpR FK_KpR CLS E_NothingLeft B
  have FK_KpC := fun_mk (st := sKpC) kl_KpC kc_KpC kk_KpC
  have mKpC : MetD K CK "check_box" sKpC ["self", "box"] fK_KpC _ := ⟨⟨kf_KpC, kn_KpC, kk_KpC⟩, FK_KpC.binds fun _ _ _ _ _ _ us hl => match us, hl with | [_, _], _ => rfl⟩
  have xKpC : ∀ k : Nat, FnOk l.prog w K mg base (L2N.CX l.prog w) (k + 3) fK_KpC _ ["self", "box"] (spKpC K CK (fun i => [d0, d1, d2, d3, d4, d5, d6, d7, d8, d9, d10, d11, d12, d13].getD i d0) dL) := fun k => ok_kpC FK_KpC CLS D22 (g22 k) E_NoBox B
  have FK_KpP := fun_mk (st := sKpP) kl_KpP kc_KpP kk_KpP
  have mKpP : MetD K CK "opened" sKpP ["self"] fK_KpP _ := ⟨⟨kf_KpP, kn_KpP, kk_KpP⟩, FK_KpP.binds fun _ _ _ _ _ _ us hl => match us, hl with | [_], _ => rfl⟩
  have xKpP : ∀ k : Nat, FnOk l.prog w K mg base (L2N.CX l.prog w) (k + 1) fK_KpP _ ["self"] (spKpP K CK (fun i => [d0, d1, d2, d3, d4, d5, d6, d7, d8, d9, d10, d11, d12, d13].getD i d0) dL) := fun k => ok_kpP FK_KpP CLS  
  have FK_KpU := fun_mk (st := sKpU) kl_KpU kc_KpU kk_KpU
  have mKpU : MetD K CK "check_shut" sKpU ["self", "box"] fK_KpU _ := ⟨⟨kf_KpU, kn_KpU, kk_KpU⟩, FK_KpU.binds fun _ _ _ _ _ _ us hl => match us, hl with | [_, _], _ => rfl⟩
  have xKpU : ∀ k : Nat, FnOk l.prog w K mg base (L2N.CX l.prog w) (k + 4) fK_KpU _ ["self", "box"] (spKpU K CK (fun i => [d0, d1, d2, d3, d4, d5, d6, d7, d8, d9, d10, d11, d12, d13].getD i d0) dL) := fun k => ok_kpU FK_KpU CLS mKpC (xKpC k) mKpP (xKpP k) E_Open 
  have FK_KpN := fun_mk (st := sKpN) kl_KpN kc_KpN kk_KpN
  have mKpN : MetD K CK "broken" sKpN ["self"] fK_KpN _ := ⟨⟨kf_KpN, kn_KpN, kk_KpN⟩, FK_KpN.binds fun _ _ _ _ _ _ us hl => match us, hl with | [_], _ => rfl⟩
  have xKpN : ∀ k : Nat, FnOk l.prog w K mg base (L2N.CX l.prog w) (k + 1) fK_KpN _ ["self"] (spKpN K CK (fun i => [d0, d1, d2, d3, d4, d5, d6, d7, d8, d9, d10, d11, d12, d13].getD i d0) dL) := fun k => ok_kpN FK_KpN CLS  
  have FK_KpK := fun_mk (st := sKpK) kl_KpK kc_KpK kk_KpK
  have mKpK : MetD K CK "locks_of" sKpK ["self", "box"] fK_KpK _ := ⟨⟨kf_KpK, kn_KpK, kk_KpK⟩, FK_KpK.binds fun _ _ _ _ _ _ us hl => match us, hl with | [_, _], _ => rfl⟩
  have xKpK : ∀ k : Nat, FnOk l.prog w K mg base (L2N.CX l.prog w) (k + 2) fK_KpK _ ["self", "box"] (spKpK K CK (fun i => [d0, d1, d2, d3, d4, d5, d6, d7, d8, d9, d10, d11, d12, d13].getD i d0) dL) := fun k => ok_kpK FK_KpK CLS mKpN (xKpN k) 
  have FK_KpH := fun_mk (st := sKpH) kl_KpH kc_KpH kk_KpH
  have mKpH : MetD K CK "hand" sKpH ["self"] fK_KpH _ := ⟨⟨kf_KpH, kn_KpH, kk_KpH⟩, FK_KpH.binds fun _ _ _ _ _ _ us hl => match us, hl with | [_], _ => rfl⟩
  have xKpH : ∀ k : Nat, FnOk l.prog w K mg base (L2N.CX l.prog w) (k + 1) fK_KpH _ ["self"] (spKpH K CK (fun i => [d0, d1, d2, d3, d4, d5, d6, d7, d8, d9, d10, d11, d12, d13].getD i d0) dL) := fun k => ok_kpH FK_KpH CLS  
  have FK_KpD := fun_mk (st := sKpD) kl_KpD kc_KpD kk_KpD
  have mKpD : MetD K CK "inside" sKpD ["self", "box"] fK_KpD _ := ⟨⟨kf_KpD, kn_KpD, kk_KpD⟩, FK_KpD.binds fun _ _ _ _ _ _ us hl => match us, hl with | [_, _], _ => rfl⟩
  have xKpD : ∀ k : Nat, FnOk l.prog w K mg base (L2N.CX l.prog w) (k + 4) fK_KpD _ ["self", "box"] (spKpD K CK (fun i => [d0, d1, d2, d3, d4, d5, d6, d7, d8, d9, d10, d11, d12, d13].getD i d0) dL) := fun k => ok_kpD FK_KpD CLS mKpC (xKpC k) 
  have FK_KpG := fun_mk (st := sKpG) kl_KpG kc_KpG kk_KpG
  have mKpG : MetD K CK "go_on" sKpG ["self", "state"] fK_KpG _ := ⟨⟨kf_KpG, kn_KpG, kk_KpG⟩, FK_KpG.binds fun _ _ _ _ _ _ us hl => match us, hl with | [_, _], _ => rfl⟩
  have xKpG : ∀ k : Nat, FnOk l.prog w K mg base (L2N.CX l.prog w) (k + 1) fK_KpG _ ["self", "state"] (spKpG K CK (fun i => [d0, d1, d2, d3, d4, d5, d6, d7, d8, d9, d10, d11, d12, d13].getD i d0) dL) := fun k => ok_kpG FK_KpG CLS  
  have FK_KpF := fun_mk (st := sKpF) kl_KpF kc_KpF kk_KpF
  have mKpF : MetD K CK "lift" sKpF ["self", "box", "broken"] fK_KpF _ := ⟨⟨kf_KpF, kn_KpF, kk_KpF⟩, FK_KpF.binds fun _ _ _ _ _ _ us hl => match us, hl with | [_, _, _], _ => rfl⟩
  have xKpF : ∀ k : Nat, FnOk l.prog w K mg base (L2N.CX l.prog w) (k + 5) fK_KpF _ ["self", "box", "broken"] (spKpF K CK (fun i => [d0, d1, d2, d3, d4, d5, d6, d7, d8, d9, d10, d11, d12, d13].getD i d0) dL) := fun k => ok_kpF FK_KpF CLS mKpH (xKpH k) mKpD (xKpD k) mKpP (xKpP k) D23 (gJnS k) (gJnN k) D24 (g24 k) mKpG (xKpG k) 
  have FK_KpO := fun_mk (st := sKpO) kl_KpO kc_KpO kk_KpO
  have mKpO : MetD K CK "open_box" sKpO ["self", "box"] fK_KpO _ := ⟨⟨kf_KpO, kn_KpO, kk_KpO⟩, FK_KpO.binds fun _ _ _ _ _ _ us hl => match us, hl with | [_, _], _ => rfl⟩
  have xKpO : ∀ k : Nat, FnOk l.prog w K mg base (L2N.CX l.prog w) (k + 6) fK_KpO _ ["self", "box"] (spKpO K CK (fun i => [d0, d1, d2, d3, d4, d5, d6, d7, d8, d9, d10, d11, d12, d13].getD i d0) dL) := fun k => ok_kpO FK_KpO CLS mKpU (xKpU k) mKpK (xKpK k) mKpH (xKpH k) mKpN (xKpN k) mKpF (xKpF k) I_Locked (gI_Locked k) 
  have FK_KpB := fun_mk (st := sKpB) kl_KpB kc_KpB kk_KpB
  have mKpB : MetD K CK "break_box" sKpB ["self", "box"] fK_KpB _ := ⟨⟨kf_KpB, kn_KpB, kk_KpB⟩, FK_KpB.binds fun _ _ _ _ _ _ us hl => match us, hl with | [_, _], _ => rfl⟩
  have xKpB : ∀ k : Nat, FnOk l.prog w K mg base (L2N.CX l.prog w) (k + 6) fK_KpB _ ["self", "box"] (spKpB K CK (fun i => [d0, d1, d2, d3, d4, d5, d6, d7, d8, d9, d10, d11, d12, d13].getD i d0) dL) := fun k => ok_kpB FK_KpB CLS mKpU (xKpU k) mKpN (xKpN k) D23 (gJnN k) mKpF (xKpF k) 
  have FK_KpV := fun_mk (st := sKpV) kl_KpV kc_KpV kk_KpV
  have mKpV : MetD K CK "check_open" sKpV ["self", "box"] fK_KpV _ := ⟨⟨kf_KpV, kn_KpV, kk_KpV⟩, FK_KpV.binds fun _ _ _ _ _ _ us hl => match us, hl with | [_, _], _ => rfl⟩
  have xKpV : ∀ k : Nat, FnOk l.prog w K mg base (L2N.CX l.prog w) (k + 4) fK_KpV _ ["self", "box"] (spKpV K CK (fun i => [d0, d1, d2, d3, d4, d5, d6, d7, d8, d9, d10, d11, d12, d13].getD i d0) dL) := fun k => ok_kpV FK_KpV CLS mKpC (xKpC k) mKpP (xKpP k) E_Shut 
  have FK_KpS := fun_mk (st := sKpS) kl_KpS kc_KpS kk_KpS
  have mKpS : MetD K CK "shut_box" sKpS ["self", "box"] fK_KpS _ := ⟨⟨kf_KpS, kn_KpS, kk_KpS⟩, FK_KpS.binds fun _ _ _ _ _ _ us hl => match us, hl with | [_, _], _ => rfl⟩
  have xKpS : ∀ k : Nat, FnOk l.prog w K mg base (L2N.CX l.prog w) (k + 5) fK_KpS _ ["self", "box"] (spKpS K CK (fun i => [d0, d1, d2, d3, d4, d5, d6, d7, d8, d9, d10, d11, d12, d13].getD i d0) dL) := fun k => ok_kpS FK_KpS CLS mKpV (xKpV k) D25 (gWoN k) mKpG (xKpG k) 
  have FK_KpT := fun_mk (st := sKpT) kl_KpT kc_KpT kk_KpT
  have mKpT : MetD K CK "take" sKpT ["self", "box"] fK_KpT _ := ⟨⟨kf_KpT, kn_KpT, kk_KpT⟩, FK_KpT.binds fun _ _ _ _ _ _ us hl => match us, hl with | [_, _], _ => rfl⟩
  have xKpT : ∀ k : Nat, FnOk l.prog w K mg base (L2N.CX l.prog w) (k + 6) fK_KpT _ ["self", "box"] (spKpT K CK (fun i => [d0, d1, d2, d3, d4, d5, d6, d7, d8, d9, d10, d11, d12, d13].getD i d0) dL) := fun k => ok_kpT FK_KpT CLS mKpV (xKpV k) mKpN (xKpN k) mKpF (xKpF k) 
  have FK_KpY := fun_mk (st := sKpY) kl_KpY kc_KpY kk_KpY
  have mKpY : MetD K CK "lay" sKpY ["self", "colour", "box"] fK_KpY _ := ⟨⟨kf_KpY, kn_KpY, kk_KpY⟩, FK_KpY.binds fun _ _ _ _ _ _ us hl => match us, hl with | [_, _, _], _ => rfl⟩
  have xKpY : ∀ k : Nat, FnOk l.prog w K mg base (L2N.CX l.prog w) (k + 5) fK_KpY _ ["self", "colour", "box"] (spKpY K CK (fun i => [d0, d1, d2, d3, d4, d5, d6, d7, d8, d9, d10, d11, d12, d13].getD i d0) dL) := fun k => ok_kpY FK_KpY CLS mKpH (xKpH k) mKpV (xKpV k) mKpD (xKpD k) D23 (gJnS k) D25 (g25 k) D24 (g24 k) mKpG (xKpG k) E_NoKey E_Full B n_MOST_KEYS
  have FK_KpL := fun_mk (st := sKpL) kl_KpL kc_KpL kk_KpL
  have mKpL : MetD K CK "__len__" sKpL ["self"] fK_KpL _ := ⟨⟨kf_KpL, kn_KpL, kk_KpL⟩, FK_KpL.binds fun _ _ _ _ _ _ us hl => match us, hl with | [_], _ => rfl⟩
  have xKpL : ∀ k : Nat, FnOk l.prog w K mg base (L2N.CX l.prog w) (k + 1) fK_KpL _ ["self"] (spKpL K CK (fun i => [d0, d1, d2, d3, d4, d5, d6, d7, d8, d9, d10, d11, d12, d13].getD i d0) dL) := fun k => ok_kpL FK_KpL CLS  B
  have FK_KpA := fun_mk (st := sKpA) kl_KpA kc_KpA kk_KpA
  have mKpA : MetD K CK "can_all" sKpA ["self"] fK_KpA _ := ⟨⟨kf_KpA, kn_KpA, kk_KpA⟩, FK_KpA.binds fun _ _ _ _ _ _ us hl => match us, hl with | [_], _ => rfl⟩
  have xKpA : ∀ k : Nat, FnOk l.prog w K mg base (L2N.CX l.prog w) (k + 5) fK_KpA _ ["self"] (spKpA K CK (fun i => [d0, d1, d2, d3, d4, d5, d6, d7, d8, d9, d10, d11, d12, d13].getD i d0) dL) := fun k => ok_kpA FK_KpA CLS mKpK (xKpK k) mKpD (xKpD k) mKpH (xKpH k) mKpP (xKpP k) D29 (g29 k) B
  have gLDo : ∀ k : Nat, FnOk l.prog w K mg base (L2N.CX l.prog w) (k + 7) f13 _ ["kept", "deed"] (spLDo K CK (fun i => [d0, d1, d2, d3, d4, d5, d6, d7, d8, d9, d10, d11, d12, d13].getD i d0) dL) := fun k => ok_LDo F13 CLS mKpO mKpB mKpS mKpT mKpR mKpY (xKpO k) (xKpB k) (xKpS k) (xKpT k) (xKpR k) (xKpY k)
  have gLSt : ∀ k : Nat, FnOk l.prog w K mg base CX0 (k + 6) f15 _ ["house", "kept", "state"] (spLSt K CK) := fun k => ok_LSt F15 CLS D14 mKpH mKpP mKpN mKpL mKpD mKpA (g14 k) (xKpH k) (xKpP k) (xKpN k) (xKpL k) (xKpD k) (xKpA k) B B.enu
  have TG : RefG K mg (fun i => [d0, d1, d2, d3, d4, d5, d6, d7, d8, d9, d10, d11, d12, d13].getD i d0) rs14 false true dT dL dB := ⟨C_TooMany.g, C_Locked.g, C_BoxError.g, B.isi, B.ver, (fun i hi h => by
    have h : i = 0 ∨ i = 6 ∨ i = 7 ∨ i = 10 ∨ i = 11 ∨ i = 12 ∨ i = 13 := by simpa [rs14] using h
    rcases h with rfl | rfl | rfl | rfl | rfl | rfl | rfl
    · exact T_NoHouse
    · exact T_NoBox
    · exact T_NoKey
    · exact T_Open
    · exact T_Shut
    · exact T_Full
    · exact T_NothingLeft), (fun h => by cases h), fun _ => ⟨PySem.W.exm_ref C_TooMany.b C_TooMany.h C_TooMany.t sLT, PySem.W.exm_ref C_Locked.b C_Locked.h C_Locked.t ss_Locked, X_Locked⟩⟩
  have L0 : ∀ c', LOk l.prog w K mg base (L2N.CX l.prog w) 18 (lamMLaw0 c') lamBLaw0 ["a", "b", "c"] (spLam2 (spLDo K CK (fun i => [d0, d1, d2, d3, d4, d5, d6, d7, d8, d9, d10, d11, d12, d13].getD i d0) dL)) := fun c' => lok_2 (F := lamMLaw0 c') (nscope_by lamSLaw0) rfl rfl (fun pm ctv us hl => match us, hl with | [_, _, _], _ => rfl) D13 (gLDo 10)
  have gRef0 : FnOk l.prog w K mg base CX0 19 f30 _ ["call", "one", "two", "three"] (spRefG (fun i => [d0, d1, d2, d3, d4, d5, d6, d7, d8, d9, d10, d11, d12, d13].getD i d0) lamMLaw0 lamBLaw0 (spLam2 (spLDo K CK (fun i => [d0, d1, d2, d3, d4, d5, d6, d7, d8, d9, d10, d11, d12, d13].getD i d0) dL)) rs14 false true dT dL) := ok_refG (k := 18) F30 TG L0
  have L1 : ∀ c', LOk l.prog w K mg base (L2N.CX l.prog w) 18 (lamMLaw1 c') lamBLaw1 ["a", "b", "c"] (spLamM CK "inside" (spKpD K CK (fun i => [d0, d1, d2, d3, d4, d5, d6, d7, d8, d9, d10, d11, d12, d13].getD i d0) dL)) := fun c' => lok_mth (F := lamMLaw1 c') (nscope_by lamSLaw1) rfl (fun pm ctv us hl => match us, hl with | [_, _, _], _ => rfl) (fun _ _ => ⟨_, rfl⟩) CLS.c mKpD.M mKpD.b (xKpD 13)
  have gRef1 : FnOk l.prog w K mg base CX0 19 f30 _ ["call", "one", "two", "three"] (spRefG (fun i => [d0, d1, d2, d3, d4, d5, d6, d7, d8, d9, d10, d11, d12, d13].getD i d0) lamMLaw1 lamBLaw1 (spLamM CK "inside" (spKpD K CK (fun i => [d0, d1, d2, d3, d4, d5, d6, d7, d8, d9, d10, d11, d12, d13].getD i d0) dL)) rs14 false true dT dL) := ok_refG (k := 18) F30 TG L1
  have L2 : ∀ c', LOk l.prog w K mg base (L2N.CX l.prog w) 18 (lamMLaw2 c') lamBLaw2 ["a", "b", "c"] (spMk1 CK (spKpI K CK (fun i => [d0, d1, d2, d3, d4, d5, d6, d7, d8, d9, d10, d11, d12, d13].getD i d0) dL)) := fun c' => lok_mk (F := lamMLaw2 c') (nscope_by lamSLaw2) rfl rfl (fun pm ctv us hl => match us, hl with | [_, _, _], _ => rfl) ⟨mk_Kept, kf_KpI, kn_KpI, kp_Kept⟩ (PySem.W.mg_of X G e_Kept) BI (xKpI 11)
  have gRef2 : FnOk l.prog w K mg base CX0 19 f30 _ ["call", "one", "two", "three"] (spRefG (fun i => [d0, d1, d2, d3, d4, d5, d6, d7, d8, d9, d10, d11, d12, d13].getD i d0) lamMLaw2 lamBLaw2 (spMk1 CK (spKpI K CK (fun i => [d0, d1, d2, d3, d4, d5, d6, d7, d8, d9, d10, d11, d12, d13].getD i d0) dL)) rs14 false true dT dL) := ok_refG (k := 18) F30 TG L2
  exact ok_law (k := 11) (CD := (fun i => [d0, d1, d2, d3, d4, d5, d6, d7, d8, d9, d10, d11, d12, d13].getD i d0)) (T := [(Pt_Law, lamQ_Law)]) l31 c31 TB_Law (List.mem_singleton.mpr rfl) (fun p hp _ => by rw [List.mem_singleton.mp hp]) D30 CLS D4 D7 D5 D12 D13 D15 ⟨mk_Kept, kf_KpI, kn_KpI, kp_Kept⟩ BI mKpE mKpR gRef0 gRef1 gRef2 (g4 11) (g7 11) (g5 11) (g12 11) (gLDo 11) (gLSt 11) (xKpI 11) (xKpE 11) (xKpR 11) B
end Kw
open PySem PySem.W PyProof.Rows
set_option maxHeartbeats 0 in
theorem PySem.Challenge.cw_keyswithin_k14_whole_a_house_kept_deed_b_holds : PySem.Challenge.rw_keyswithin_k14_whole_a_house_kept_deed_b.Holds := by
  w_on; o_law; k_head; (case hw => w_witness2)
  k_fill
  refine LamX.walk_ofTs (l := PySem.Challenge.rw_keyswithin_k14_whole_a_house_kept_deed_b) (n := 63) (k := 20) (x := "script") (CX := fun _ => L2.CX0) rfl (by decide) rfl ⟨rfl, by decide, by decide⟩ (fun w h Y => PySem.W.km_in_of Y) ?F (fun _ _ _ _ _ h => h)
  case F =>
    intro w mg fa h Y KX G hmg
    refine' Kw.all_mk KX G hmg (PySem.W.km_tabs_of Y _ (List.mem_singleton.mpr rfl)) ?a1 ?l1 ?c1 ?k1 ?a2 ?l2 ?c2 ?k2 ?a3 ?l3 ?c3 ?k3 ?a4 ?l4 ?c4 ?k4 ?a5 ?l5 ?c5 ?k5 ?a6 ?l6 ?c6 ?k6 ?a7 ?l7 ?c7 ?k7 ?a8 ?l8 ?c8 ?k8 ?a9 ?l9 ?c9 ?k9 ?a10 ?l10 ?c10 ?k10 ?a11 ?l11 ?c11 ?k11 ?a12 ?l12 ?c12 ?k12 ?a13 ?l13 ?c13 ?k13 ?a14 ?l14 ?c14 ?k14 ?a15 ?l15 ?c15 ?k15 ?a16 ?l16 ?c16 ?k16 ?a17 ?l17 ?c17 ?k17 ?a18 ?l18 ?c18 ?k18 ?a19 ?l19 ?c19 ?k19 ?a20 ?l20 ?c20 ?k20 ?a21 ?l21 ?c21 ?k21 ?a22 ?l22 ?c22 ?k22 ?a23 ?l23 ?c23 ?k23 ?a24 ?l24 ?c24 ?k24 ?a25 ?l25 ?c25 ?k25 ?a26 ?l26 ?c26 ?k26 ?a27 ?l27 ?c27 ?k27 ?a28 ?l28 ?c28 ?k28 ?a29 ?l29 ?c29 ?k29 ?a30 ?l30 ?c30 ?k30 ?a31 ?l31 ?c31 ?k31 ?z_isi ?z_tup ?z_lst ?z_str ?z_len ?z_all ?z_zip ?z_rng ?z_int ?z_max ?z_min ?z_srt ?z_enu ?z_sum ?z_abs ?z_rpr ?z_set ?z_bool ?z_ver ?z_any ?m_MOST_LETTERS ?m_SMALL_LETTERS ?m_MOST_BOXES ?m_MOST_LOCKS ?m_MOST_KEYS ?e_NoHouse ?i_NoHouse ?t_NoHouse ?b_NoHouse ?h_NoHouse ?e_NoColour ?i_NoColour ?t_NoColour ?b_NoColour ?h_NoColour ?e_NoRow ?i_NoRow ?t_NoRow ?b_NoRow ?h_NoRow ?e_NoBoxes ?i_NoBoxes ?t_NoBoxes ?b_NoBoxes ?h_NoBoxes ?e_NoLaying ?i_NoLaying ?t_NoLaying ?b_NoLaying ?h_NoLaying ?e_NoNumber ?i_NoNumber ?t_NoNumber ?b_NoNumber ?h_NoNumber ?e_NoBox ?i_NoBox ?t_NoBox ?b_NoBox ?h_NoBox ?e_NoKey ?i_NoKey ?t_NoKey ?b_NoKey ?h_NoKey ?e_Locks ?i_Locks ?t_Locks ?b_Locks ?h_Locks ?e_Unlike ?i_Unlike ?t_Unlike ?b_Unlike ?h_Unlike ?e_Open ?i_Open ?t_Open ?b_Open ?h_Open ?e_Shut ?i_Shut ?t_Shut ?b_Shut ?h_Shut ?e_Full ?i_Full ?t_Full ?b_Full ?h_Full ?e_NothingLeft ?i_NothingLeft ?t_NothingLeft ?b_NothingLeft ?h_NothingLeft ?e_TooMany ?i_TooMany ?t_TooMany ?b_TooMany ?h_TooMany ?e_Locked ?i_Locked ?t_Locked ?b_Locked ?h_Locked ?e_BoxError ?i_BoxError ?t_BoxError ?b_BoxError ?h_BoxError ?v_NoHouse ?s_NoHouse_NoHouse ?s_NoHouse_NoColour ?n_NoHouse_NoColour ?s_NoHouse_NoRow ?n_NoHouse_NoRow ?s_NoHouse_NoBoxes ?n_NoHouse_NoBoxes ?s_NoHouse_NoLaying ?n_NoHouse_NoLaying ?s_NoHouse_NoNumber ?n_NoHouse_NoNumber ?s_NoHouse_NoBox ?n_NoHouse_NoBox ?s_NoHouse_NoKey ?n_NoHouse_NoKey ?s_NoHouse_Locks ?n_NoHouse_Locks ?s_NoHouse_Unlike ?n_NoHouse_Unlike ?s_NoHouse_Open ?n_NoHouse_Open ?s_NoHouse_Shut ?n_NoHouse_Shut ?s_NoHouse_Full ?n_NoHouse_Full ?s_NoHouse_NothingLeft ?n_NoHouse_NothingLeft ?s_NoHouse_TooMany ?s_NoHouse_Locked ?s_NoHouse_BoxError ?w1_NoHouse ?w2_NoHouse ?w5_NoHouse ?w8_NoHouse ?xq_NoHouse ?xk_NoHouse ?v_NoBox ?s_NoBox_NoHouse ?n_NoBox_NoHouse ?s_NoBox_NoColour ?n_NoBox_NoColour ?s_NoBox_NoRow ?n_NoBox_NoRow ?s_NoBox_NoBoxes ?n_NoBox_NoBoxes ?s_NoBox_NoLaying ?n_NoBox_NoLaying ?s_NoBox_NoNumber ?n_NoBox_NoNumber ?s_NoBox_NoBox ?s_NoBox_NoKey ?n_NoBox_NoKey ?s_NoBox_Locks ?n_NoBox_Locks ?s_NoBox_Unlike ?n_NoBox_Unlike ?s_NoBox_Open ?n_NoBox_Open ?s_NoBox_Shut ?n_NoBox_Shut ?s_NoBox_Full ?n_NoBox_Full ?s_NoBox_NothingLeft ?n_NoBox_NothingLeft ?s_NoBox_TooMany ?s_NoBox_Locked ?s_NoBox_BoxError ?w1_NoBox ?w2_NoBox ?w5_NoBox ?w8_NoBox ?xq_NoBox ?xk_NoBox ?v_NoKey ?s_NoKey_NoHouse ?n_NoKey_NoHouse ?s_NoKey_NoColour ?n_NoKey_NoColour ?s_NoKey_NoRow ?n_NoKey_NoRow ?s_NoKey_NoBoxes ?n_NoKey_NoBoxes ?s_NoKey_NoLaying ?n_NoKey_NoLaying ?s_NoKey_NoNumber ?n_NoKey_NoNumber ?s_NoKey_NoBox ?n_NoKey_NoBox ?s_NoKey_NoKey ?s_NoKey_Locks ?n_NoKey_Locks ?s_NoKey_Unlike ?n_NoKey_Unlike ?s_NoKey_Open ?n_NoKey_Open ?s_NoKey_Shut ?n_NoKey_Shut ?s_NoKey_Full ?n_NoKey_Full ?s_NoKey_NothingLeft ?n_NoKey_NothingLeft ?s_NoKey_TooMany ?s_NoKey_Locked ?s_NoKey_BoxError ?w1_NoKey ?w2_NoKey ?w5_NoKey ?w8_NoKey ?xq_NoKey ?xk_NoKey ?v_Open ?s_Open_NoHouse ?n_Open_NoHouse ?s_Open_NoColour ?n_Open_NoColour ?s_Open_NoRow ?n_Open_NoRow ?s_Open_NoBoxes ?n_Open_NoBoxes ?s_Open_NoLaying ?n_Open_NoLaying ?s_Open_NoNumber ?n_Open_NoNumber ?s_Open_NoBox ?n_Open_NoBox ?s_Open_NoKey ?n_Open_NoKey ?s_Open_Locks ?n_Open_Locks ?s_Open_Unlike ?n_Open_Unlike ?s_Open_Open ?s_Open_Shut ?n_Open_Shut ?s_Open_Full ?n_Open_Full ?s_Open_NothingLeft ?n_Open_NothingLeft ?s_Open_TooMany ?s_Open_Locked ?s_Open_BoxError ?w1_Open ?w2_Open ?w5_Open ?w8_Open ?xq_Open ?xk_Open ?v_Shut ?s_Shut_NoHouse ?n_Shut_NoHouse ?s_Shut_NoColour ?n_Shut_NoColour ?s_Shut_NoRow ?n_Shut_NoRow ?s_Shut_NoBoxes ?n_Shut_NoBoxes ?s_Shut_NoLaying ?n_Shut_NoLaying ?s_Shut_NoNumber ?n_Shut_NoNumber ?s_Shut_NoBox ?n_Shut_NoBox ?s_Shut_NoKey ?n_Shut_NoKey ?s_Shut_Locks ?n_Shut_Locks ?s_Shut_Unlike ?n_Shut_Unlike ?s_Shut_Open ?n_Shut_Open ?s_Shut_Shut ?s_Shut_Full ?n_Shut_Full ?s_Shut_NothingLeft ?n_Shut_NothingLeft ?s_Shut_TooMany ?s_Shut_Locked ?s_Shut_BoxError ?w1_Shut ?w2_Shut ?w5_Shut ?w8_Shut ?xq_Shut ?xk_Shut ?v_Full ?s_Full_NoHouse ?n_Full_NoHouse ?s_Full_NoColour ?n_Full_NoColour ?s_Full_NoRow ?n_Full_NoRow ?s_Full_NoBoxes ?n_Full_NoBoxes ?s_Full_NoLaying ?n_Full_NoLaying ?s_Full_NoNumber ?n_Full_NoNumber ?s_Full_NoBox ?n_Full_NoBox ?s_Full_NoKey ?n_Full_NoKey ?s_Full_Locks ?n_Full_Locks ?s_Full_Unlike ?n_Full_Unlike ?s_Full_Open ?n_Full_Open ?s_Full_Shut ?n_Full_Shut ?s_Full_Full ?s_Full_NothingLeft ?n_Full_NothingLeft ?s_Full_TooMany ?s_Full_Locked ?s_Full_BoxError ?w1_Full ?w2_Full ?w5_Full ?w8_Full ?xq_Full ?xk_Full ?v_NothingLeft ?s_NothingLeft_NoHouse ?n_NothingLeft_NoHouse ?s_NothingLeft_NoColour ?n_NothingLeft_NoColour ?s_NothingLeft_NoRow ?n_NothingLeft_NoRow ?s_NothingLeft_NoBoxes ?n_NothingLeft_NoBoxes ?s_NothingLeft_NoLaying ?n_NothingLeft_NoLaying ?s_NothingLeft_NoNumber ?n_NothingLeft_NoNumber ?s_NothingLeft_NoBox ?n_NothingLeft_NoBox ?s_NothingLeft_NoKey ?n_NothingLeft_NoKey ?s_NothingLeft_Locks ?n_NothingLeft_Locks ?s_NothingLeft_Unlike ?n_NothingLeft_Unlike ?s_NothingLeft_Open ?n_NothingLeft_Open ?s_NothingLeft_Shut ?n_NothingLeft_Shut ?s_NothingLeft_Full ?n_NothingLeft_Full ?s_NothingLeft_NothingLeft ?s_NothingLeft_TooMany ?s_NothingLeft_Locked ?s_NothingLeft_BoxError ?w1_NothingLeft ?w2_NothingLeft ?w5_NothingLeft ?w8_NothingLeft ?xq_NothingLeft ?xk_NothingLeft ?w6 ?w7 ?tn_Law ?tl_Law ?th_Law ?v_Locked ?w1_Locked ?w2_Locked ?w5_Locked ?w8_Locked ?xk_Locked ?ss_Locked ?sa_Locked ?no_Locked ?cl_Locked ?rv_Locked ?in_Locked ?ity_Locked ?il_Locked ?ic_Locked ?ik_Locked ?e_Kept ?mk_Kept ?kp_Kept ?kf_KpI ?kn_KpI ?kl_KpI ?kc_KpI ?kk_KpI ?kf_KpE ?kn_KpE ?kl_KpE ?kc_KpE ?kk_KpE ?kf_KpR ?kn_KpR ?kl_KpR ?kc_KpR ?kk_KpR ?kf_KpC ?kn_KpC ?kl_KpC ?kc_KpC ?kk_KpC ?kf_KpP ?kn_KpP ?kl_KpP ?kc_KpP ?kk_KpP ?kf_KpU ?kn_KpU ?kl_KpU ?kc_KpU ?kk_KpU ?kf_KpN ?kn_KpN ?kl_KpN ?kc_KpN ?kk_KpN ?kf_KpK ?kn_KpK ?kl_KpK ?kc_KpK ?kk_KpK ?kf_KpH ?kn_KpH ?kl_KpH ?kc_KpH ?kk_KpH ?kf_KpD ?kn_KpD ?kl_KpD ?kc_KpD ?kk_KpD ?kf_KpG ?kn_KpG ?kl_KpG ?kc_KpG ?kk_KpG ?kf_KpF ?kn_KpF ?kl_KpF ?kc_KpF ?kk_KpF ?kf_KpO ?kn_KpO ?kl_KpO ?kc_KpO ?kk_KpO ?kf_KpB ?kn_KpB ?kl_KpB ?kc_KpB ?kk_KpB ?kf_KpV ?kn_KpV ?kl_KpV ?kc_KpV ?kk_KpV ?kf_KpS ?kn_KpS ?kl_KpS ?kc_KpS ?kk_KpS ?kf_KpT ?kn_KpT ?kl_KpT ?kc_KpT ?kk_KpT ?kf_KpY ?kn_KpY ?kl_KpY ?kc_KpY ?kk_KpY ?kf_KpL ?kn_KpL ?kl_KpL ?kc_KpL ?kk_KpL ?kf_KpA ?kn_KpA ?kl_KpA ?kc_KpA ?kk_KpA ?ky_pg ?ky_hd ?ky_po ?ky_sa ?ky_house ?ky_state ?ky_past ?ky_ca ?ky_cm ?ky_nt ?ky_nk ?ky_ic ?ky_ty ?ky_s1 ?ky_s2 ?sLT
    (case a1 => k_is)
    (case l1 => k_is)
    (case c1 => k_is)
    (case k1 => k_is)
    (case a2 => k_is)
    (case l2 => k_is)
    (case c2 => k_is)
    (case k2 => k_is)
    (case a3 => k_is)
    (case l3 => k_is)
    (case c3 => k_is)
    (case k3 => k_is)
    (case a4 => k_is)
    (case l4 => k_is)
    (case c4 => k_is)
    (case k4 => k_is)
    (case a5 => k_is)
    (case l5 => k_is)
    (case c5 => k_is)
    (case k5 => k_is)
    (case a6 => k_is)
    (case l6 => k_is)
    (case c6 => k_is)
    (case k6 => k_is)
    (case a7 => k_is)
    (case l7 => k_is)
    (case c7 => k_is)
    (case k7 => k_is)
    (case a8 => k_is)
    (case l8 => k_is)
    (case c8 => k_is)
    (case k8 => k_is)
    (case a9 => k_is)
    (case l9 => k_is)
    (case c9 => k_is)
    (case k9 => k_is)
    (case a10 => k_is)
    (case l10 => k_is)
    (case c10 => k_is)
    (case k10 => k_is)
    (case a11 => k_is)
    (case l11 => k_is)
    (case c11 => k_is)
    (case k11 => k_is)
    (case a12 => k_is)
    (case l12 => k_is)
    (case c12 => k_is)
    (case k12 => k_is)
    (case a13 => k_is)
    (case l13 => k_is)
    (case c13 => k_is)
    (case k13 => k_is)
    (case a14 => k_is)
    (case l14 => k_is)
    (case c14 => k_is)
    (case k14 => k_is)
    (case a15 => k_is)
    (case l15 => k_is)
    (case c15 => k_is)
    (case k15 => k_is)
    (case a16 => k_is)
    (case l16 => k_is)
    (case c16 => k_is)
    (case k16 => k_is)
    (case a17 => k_is)
    (case l17 => k_is)
    (case c17 => k_is)
    (case k17 => k_is)
    (case a18 => k_is)
    (case l18 => k_is)
    (case c18 => k_is)
    (case k18 => k_is)
    (case a19 => k_is)
    (case l19 => k_is)
    (case c19 => k_is)
    (case k19 => k_is)
    (case a20 => k_is)
    (case l20 => k_is)
    (case c20 => k_is)
    (case k20 => k_is)
    (case a21 => k_is)
    (case l21 => k_is)
    (case c21 => k_is)
    (case k21 => k_is)
    (case a22 => k_is)
    (case l22 => k_is)
    (case c22 => k_is)
    (case k22 => k_is)
    (case a23 => k_is)
    (case l23 => k_is)
    (case c23 => k_is)
    (case k23 => k_is)
    (case a24 => k_is)
    (case l24 => k_is)
    (case c24 => k_is)
    (case k24 => k_is)
    (case a25 => k_is)
    (case l25 => k_is)
    (case c25 => k_is)
    (case k25 => k_is)
    (case a26 => k_is)
    (case l26 => k_is)
    (case c26 => k_is)
    (case k26 => k_is)
    (case a27 => k_is)
    (case l27 => k_is)
    (case c27 => k_is)
    (case k27 => k_is)
    (case a28 => k_is)
    (case l28 => k_is)
    (case c28 => k_is)
    (case k28 => k_is)
    (case a29 => k_is)
    (case l29 => k_is)
    (case c29 => k_is)
    (case k29 => k_is)
    (case a30 => k_is)
    (case l30 => k_is)
    (case c30 => k_is)
    (case k30 => k_is)
    (case a31 => k_is)
    (case l31 => k_is)
    (case c31 => k_is)
    (case k31 => k_is)
    (case z_isi => k_is)
    (case z_tup => k_is)
    (case z_lst => k_is)
    (case z_str => k_is)
    (case z_len => k_is)
    (case z_all => k_is)
    (case z_zip => k_is)
    (case z_rng => k_is)
    (case z_int => k_is)
    (case z_max => k_is)
    (case z_min => k_is)
    (case z_srt => k_is)
    (case z_enu => k_is)
    (case z_sum => k_is)
    (case z_abs => k_is)
    (case z_rpr => k_is)
    (case z_set => k_is)
    (case z_bool => k_is)
    (case z_ver => k_is)
    (case z_any => k_is)
    (case m_MOST_LETTERS => k_is)
    (case m_SMALL_LETTERS => k_is)
    (case m_MOST_BOXES => k_is)
    (case m_MOST_LOCKS => k_is)
    (case m_MOST_KEYS => k_is)
    (case e_NoHouse => k_is)
    (case i_NoHouse => k_is)
    (case t_NoHouse => k_is)
    (case b_NoHouse => k_is)
    (case h_NoHouse => k_is)
    (case e_NoColour => k_is)
    (case i_NoColour => k_is)
    (case t_NoColour => k_is)
    (case b_NoColour => k_is)
    (case h_NoColour => k_is)
    (case e_NoRow => k_is)
    (case i_NoRow => k_is)
    (case t_NoRow => k_is)
    (case b_NoRow => k_is)
    (case h_NoRow => k_is)
    (case e_NoBoxes => k_is)
    (case i_NoBoxes => k_is)
    (case t_NoBoxes => k_is)
    (case b_NoBoxes => k_is)
    (case h_NoBoxes => k_is)
    (case e_NoLaying => k_is)
    (case i_NoLaying => k_is)
    (case t_NoLaying => k_is)
    (case b_NoLaying => k_is)
    (case h_NoLaying => k_is)
    (case e_NoNumber => k_is)
    (case i_NoNumber => k_is)
    (case t_NoNumber => k_is)
    (case b_NoNumber => k_is)
    (case h_NoNumber => k_is)
    (case e_NoBox => k_is)
    (case i_NoBox => k_is)
    (case t_NoBox => k_is)
    (case b_NoBox => k_is)
    (case h_NoBox => k_is)
    (case e_NoKey => k_is)
    (case i_NoKey => k_is)
    (case t_NoKey => k_is)
    (case b_NoKey => k_is)
    (case h_NoKey => k_is)
    (case e_Locks => k_is)
    (case i_Locks => k_is)
    (case t_Locks => k_is)
    (case b_Locks => k_is)
    (case h_Locks => k_is)
    (case e_Unlike => k_is)
    (case i_Unlike => k_is)
    (case t_Unlike => k_is)
    (case b_Unlike => k_is)
    (case h_Unlike => k_is)
    (case e_Open => k_is)
    (case i_Open => k_is)
    (case t_Open => k_is)
    (case b_Open => k_is)
    (case h_Open => k_is)
    (case e_Shut => k_is)
    (case i_Shut => k_is)
    (case t_Shut => k_is)
    (case b_Shut => k_is)
    (case h_Shut => k_is)
    (case e_Full => k_is)
    (case i_Full => k_is)
    (case t_Full => k_is)
    (case b_Full => k_is)
    (case h_Full => k_is)
    (case e_NothingLeft => k_is)
    (case i_NothingLeft => k_is)
    (case t_NothingLeft => k_is)
    (case b_NothingLeft => k_is)
    (case h_NothingLeft => k_is)
    (case e_TooMany => k_is)
    (case i_TooMany => k_is)
    (case t_TooMany => k_is)
    (case b_TooMany => k_is)
    (case h_TooMany => k_is)
    (case e_Locked => k_is)
    (case i_Locked => k_is)
    (case t_Locked => k_is)
    (case b_Locked => k_is)
    (case h_Locked => k_is)
    (case e_BoxError => k_is)
    (case i_BoxError => k_is)
    (case t_BoxError => k_is)
    (case b_BoxError => k_is)
    (case h_BoxError => k_is)
    (case v_NoHouse => k_is)
    (case s_NoHouse_NoHouse => k_is)
    (case s_NoHouse_NoColour => k_is)
    (case n_NoHouse_NoColour => decide)
    (case s_NoHouse_NoRow => k_is)
    (case n_NoHouse_NoRow => decide)
    (case s_NoHouse_NoBoxes => k_is)
    (case n_NoHouse_NoBoxes => decide)
    (case s_NoHouse_NoLaying => k_is)
    (case n_NoHouse_NoLaying => decide)
    (case s_NoHouse_NoNumber => k_is)
    (case n_NoHouse_NoNumber => decide)
    (case s_NoHouse_NoBox => k_is)
    (case n_NoHouse_NoBox => decide)
    (case s_NoHouse_NoKey => k_is)
    (case n_NoHouse_NoKey => decide)
    (case s_NoHouse_Locks => k_is)
    (case n_NoHouse_Locks => decide)
    (case s_NoHouse_Unlike => k_is)
    (case n_NoHouse_Unlike => decide)
    (case s_NoHouse_Open => k_is)
    (case n_NoHouse_Open => decide)
    (case s_NoHouse_Shut => k_is)
    (case n_NoHouse_Shut => decide)
    (case s_NoHouse_Full => k_is)
    (case n_NoHouse_Full => decide)
    (case s_NoHouse_NothingLeft => k_is)
    (case n_NoHouse_NothingLeft => decide)
    (case s_NoHouse_TooMany => k_is)
    (case s_NoHouse_Locked => k_is)
    (case s_NoHouse_BoxError => k_is)
    (case w1_NoHouse => k_is)
    (case w2_NoHouse => k_is)
    (case w5_NoHouse => k_is)
    (case w8_NoHouse => k_is)
    (case xq_NoHouse => k_exc)
    (case xk_NoHouse => k_is)
    (case v_NoBox => k_is)
    (case s_NoBox_NoHouse => k_is)
    (case n_NoBox_NoHouse => decide)
    (case s_NoBox_NoColour => k_is)
    (case n_NoBox_NoColour => decide)
    (case s_NoBox_NoRow => k_is)
    (case n_NoBox_NoRow => decide)
    (case s_NoBox_NoBoxes => k_is)
    (case n_NoBox_NoBoxes => decide)
    (case s_NoBox_NoLaying => k_is)
    (case n_NoBox_NoLaying => decide)
    (case s_NoBox_NoNumber => k_is)
    (case n_NoBox_NoNumber => decide)
    (case s_NoBox_NoBox => k_is)
    (case s_NoBox_NoKey => k_is)
    (case n_NoBox_NoKey => decide)
    (case s_NoBox_Locks => k_is)
    (case n_NoBox_Locks => decide)
    (case s_NoBox_Unlike => k_is)
    (case n_NoBox_Unlike => decide)
    (case s_NoBox_Open => k_is)
    (case n_NoBox_Open => decide)
    (case s_NoBox_Shut => k_is)
    (case n_NoBox_Shut => decide)
    (case s_NoBox_Full => k_is)
    (case n_NoBox_Full => decide)
    (case s_NoBox_NothingLeft => k_is)
    (case n_NoBox_NothingLeft => decide)
    (case s_NoBox_TooMany => k_is)
    (case s_NoBox_Locked => k_is)
    (case s_NoBox_BoxError => k_is)
    (case w1_NoBox => k_is)
    (case w2_NoBox => k_is)
    (case w5_NoBox => k_is)
    (case w8_NoBox => k_is)
    (case xq_NoBox => k_exc)
    (case xk_NoBox => k_is)
    (case v_NoKey => k_is)
    (case s_NoKey_NoHouse => k_is)
    (case n_NoKey_NoHouse => decide)
    (case s_NoKey_NoColour => k_is)
    (case n_NoKey_NoColour => decide)
    (case s_NoKey_NoRow => k_is)
    (case n_NoKey_NoRow => decide)
    (case s_NoKey_NoBoxes => k_is)
    (case n_NoKey_NoBoxes => decide)
    (case s_NoKey_NoLaying => k_is)
    (case n_NoKey_NoLaying => decide)
    (case s_NoKey_NoNumber => k_is)
    (case n_NoKey_NoNumber => decide)
    (case s_NoKey_NoBox => k_is)
    (case n_NoKey_NoBox => decide)
    (case s_NoKey_NoKey => k_is)
    (case s_NoKey_Locks => k_is)
    (case n_NoKey_Locks => decide)
    (case s_NoKey_Unlike => k_is)
    (case n_NoKey_Unlike => decide)
    (case s_NoKey_Open => k_is)
    (case n_NoKey_Open => decide)
    (case s_NoKey_Shut => k_is)
    (case n_NoKey_Shut => decide)
    (case s_NoKey_Full => k_is)
    (case n_NoKey_Full => decide)
    (case s_NoKey_NothingLeft => k_is)
    (case n_NoKey_NothingLeft => decide)
    (case s_NoKey_TooMany => k_is)
    (case s_NoKey_Locked => k_is)
    (case s_NoKey_BoxError => k_is)
    (case w1_NoKey => k_is)
    (case w2_NoKey => k_is)
    (case w5_NoKey => k_is)
    (case w8_NoKey => k_is)
    (case xq_NoKey => k_exc)
    (case xk_NoKey => k_is)
    (case v_Open => k_is)
    (case s_Open_NoHouse => k_is)
    (case n_Open_NoHouse => decide)
    (case s_Open_NoColour => k_is)
    (case n_Open_NoColour => decide)
    (case s_Open_NoRow => k_is)
    (case n_Open_NoRow => decide)
    (case s_Open_NoBoxes => k_is)
    (case n_Open_NoBoxes => decide)
    (case s_Open_NoLaying => k_is)
    (case n_Open_NoLaying => decide)
    (case s_Open_NoNumber => k_is)
    (case n_Open_NoNumber => decide)
    (case s_Open_NoBox => k_is)
    (case n_Open_NoBox => decide)
    (case s_Open_NoKey => k_is)
    (case n_Open_NoKey => decide)
    (case s_Open_Locks => k_is)
    (case n_Open_Locks => decide)
    (case s_Open_Unlike => k_is)
    (case n_Open_Unlike => decide)
    (case s_Open_Open => k_is)
    (case s_Open_Shut => k_is)
    (case n_Open_Shut => decide)
    (case s_Open_Full => k_is)
    (case n_Open_Full => decide)
    (case s_Open_NothingLeft => k_is)
    (case n_Open_NothingLeft => decide)
    (case s_Open_TooMany => k_is)
    (case s_Open_Locked => k_is)
    (case s_Open_BoxError => k_is)
    (case w1_Open => k_is)
    (case w2_Open => k_is)
    (case w5_Open => k_is)
    (case w8_Open => k_is)
    (case xq_Open => k_exc)
    (case xk_Open => k_is)
    (case v_Shut => k_is)
    (case s_Shut_NoHouse => k_is)
    (case n_Shut_NoHouse => decide)
    (case s_Shut_NoColour => k_is)
    (case n_Shut_NoColour => decide)
    (case s_Shut_NoRow => k_is)
    (case n_Shut_NoRow => decide)
    (case s_Shut_NoBoxes => k_is)
    (case n_Shut_NoBoxes => decide)
    (case s_Shut_NoLaying => k_is)
    (case n_Shut_NoLaying => decide)
    (case s_Shut_NoNumber => k_is)
    (case n_Shut_NoNumber => decide)
    (case s_Shut_NoBox => k_is)
    (case n_Shut_NoBox => decide)
    (case s_Shut_NoKey => k_is)
    (case n_Shut_NoKey => decide)
    (case s_Shut_Locks => k_is)
    (case n_Shut_Locks => decide)
    (case s_Shut_Unlike => k_is)
    (case n_Shut_Unlike => decide)
    (case s_Shut_Open => k_is)
    (case n_Shut_Open => decide)
    (case s_Shut_Shut => k_is)
    (case s_Shut_Full => k_is)
    (case n_Shut_Full => decide)
    (case s_Shut_NothingLeft => k_is)
    (case n_Shut_NothingLeft => decide)
    (case s_Shut_TooMany => k_is)
    (case s_Shut_Locked => k_is)
    (case s_Shut_BoxError => k_is)
    (case w1_Shut => k_is)
    (case w2_Shut => k_is)
    (case w5_Shut => k_is)
    (case w8_Shut => k_is)
    (case xq_Shut => k_exc)
    (case xk_Shut => k_is)
    (case v_Full => k_is)
    (case s_Full_NoHouse => k_is)
    (case n_Full_NoHouse => decide)
    (case s_Full_NoColour => k_is)
    (case n_Full_NoColour => decide)
    (case s_Full_NoRow => k_is)
    (case n_Full_NoRow => decide)
    (case s_Full_NoBoxes => k_is)
    (case n_Full_NoBoxes => decide)
    (case s_Full_NoLaying => k_is)
    (case n_Full_NoLaying => decide)
    (case s_Full_NoNumber => k_is)
    (case n_Full_NoNumber => decide)
    (case s_Full_NoBox => k_is)
    (case n_Full_NoBox => decide)
    (case s_Full_NoKey => k_is)
    (case n_Full_NoKey => decide)
    (case s_Full_Locks => k_is)
    (case n_Full_Locks => decide)
    (case s_Full_Unlike => k_is)
    (case n_Full_Unlike => decide)
    (case s_Full_Open => k_is)
    (case n_Full_Open => decide)
    (case s_Full_Shut => k_is)
    (case n_Full_Shut => decide)
    (case s_Full_Full => k_is)
    (case s_Full_NothingLeft => k_is)
    (case n_Full_NothingLeft => decide)
    (case s_Full_TooMany => k_is)
    (case s_Full_Locked => k_is)
    (case s_Full_BoxError => k_is)
    (case w1_Full => k_is)
    (case w2_Full => k_is)
    (case w5_Full => k_is)
    (case w8_Full => k_is)
    (case xq_Full => k_exc)
    (case xk_Full => k_is)
    (case v_NothingLeft => k_is)
    (case s_NothingLeft_NoHouse => k_is)
    (case n_NothingLeft_NoHouse => decide)
    (case s_NothingLeft_NoColour => k_is)
    (case n_NothingLeft_NoColour => decide)
    (case s_NothingLeft_NoRow => k_is)
    (case n_NothingLeft_NoRow => decide)
    (case s_NothingLeft_NoBoxes => k_is)
    (case n_NothingLeft_NoBoxes => decide)
    (case s_NothingLeft_NoLaying => k_is)
    (case n_NothingLeft_NoLaying => decide)
    (case s_NothingLeft_NoNumber => k_is)
    (case n_NothingLeft_NoNumber => decide)
    (case s_NothingLeft_NoBox => k_is)
    (case n_NothingLeft_NoBox => decide)
    (case s_NothingLeft_NoKey => k_is)
    (case n_NothingLeft_NoKey => decide)
    (case s_NothingLeft_Locks => k_is)
    (case n_NothingLeft_Locks => decide)
    (case s_NothingLeft_Unlike => k_is)
    (case n_NothingLeft_Unlike => decide)
    (case s_NothingLeft_Open => k_is)
    (case n_NothingLeft_Open => decide)
    (case s_NothingLeft_Shut => k_is)
    (case n_NothingLeft_Shut => decide)
    (case s_NothingLeft_Full => k_is)
    (case n_NothingLeft_Full => decide)
    (case s_NothingLeft_NothingLeft => k_is)
    (case s_NothingLeft_TooMany => k_is)
    (case s_NothingLeft_Locked => k_is)
    (case s_NothingLeft_BoxError => k_is)
    (case w1_NothingLeft => k_is)
    (case w2_NothingLeft => k_is)
    (case w5_NothingLeft => k_is)
    (case w8_NothingLeft => k_is)
    (case xq_NothingLeft => k_exc)
    (case xk_NothingLeft => k_is)
    (case w6 => k_is)
    (case w7 => k_is)
    (case tn_Law => exact Kw.km_none Y (by decide +kernel))
    (case tl_Law => k_is)
    (case th_Law => decide +kernel)
    (case v_Locked => k_is)
    (case w1_Locked => k_is)
    (case w2_Locked => k_is)
    (case w5_Locked => k_is)
    (case w8_Locked => k_is)
    (case xk_Locked => k_is)
    (case ss_Locked => k_is)
    (case sa_Locked => k_is)
    (case no_Locked => k_is)
    (case cl_Locked => k_is)
    (case rv_Locked => decide +kernel)
    (case in_Locked => k_is)
    (case ity_Locked => k_is)
    (case il_Locked => k_is)
    (case ic_Locked => k_is)
    (case ik_Locked => k_is)
    (case e_Kept => k_is)
    (case mk_Kept => k_is)
    (case kp_Kept => k_is)
    (case kf_KpI => k_is)
    (case kn_KpI => k_is)
    (case kl_KpI => k_is)
    (case kc_KpI => k_is)
    (case kk_KpI => k_is)
    (case kf_KpE => k_is)
    (case kn_KpE => k_is)
    (case kl_KpE => k_is)
    (case kc_KpE => k_is)
    (case kk_KpE => k_is)
    (case kf_KpR => k_is)
    (case kn_KpR => k_is)
    (case kl_KpR => k_is)
    (case kc_KpR => k_is)
    (case kk_KpR => k_is)
    (case kf_KpC => k_is)
    (case kn_KpC => k_is)
    (case kl_KpC => k_is)
    (case kc_KpC => k_is)
    (case kk_KpC => k_is)
    (case kf_KpP => k_is)
    (case kn_KpP => k_is)
    (case kl_KpP => k_is)
    (case kc_KpP => k_is)
    (case kk_KpP => k_is)
    (case kf_KpU => k_is)
    (case kn_KpU => k_is)
    (case kl_KpU => k_is)
    (case kc_KpU => k_is)
    (case kk_KpU => k_is)
    (case kf_KpN => k_is)
    (case kn_KpN => k_is)
    (case kl_KpN => k_is)
    (case kc_KpN => k_is)
    (case kk_KpN => k_is)
    (case kf_KpK => k_is)
    (case kn_KpK => k_is)
    (case kl_KpK => k_is)
    (case kc_KpK => k_is)
    (case kk_KpK => k_is)
    (case kf_KpH => k_is)
    (case kn_KpH => k_is)
    (case kl_KpH => k_is)
    (case kc_KpH => k_is)
    (case kk_KpH => k_is)
    (case kf_KpD => k_is)
    (case kn_KpD => k_is)
    (case kl_KpD => k_is)
    (case kc_KpD => k_is)
    (case kk_KpD => k_is)
    (case kf_KpG => k_is)
    (case kn_KpG => k_is)
    (case kl_KpG => k_is)
    (case kc_KpG => k_is)
    (case kk_KpG => k_is)
    (case kf_KpF => k_is)
    (case kn_KpF => k_is)
    (case kl_KpF => k_is)
    (case kc_KpF => k_is)
    (case kk_KpF => k_is)
    (case kf_KpO => k_is)
    (case kn_KpO => k_is)
    (case kl_KpO => k_is)
    (case kc_KpO => k_is)
    (case kk_KpO => k_is)
    (case kf_KpB => k_is)
    (case kn_KpB => k_is)
    (case kl_KpB => k_is)
    (case kc_KpB => k_is)
    (case kk_KpB => k_is)
    (case kf_KpV => k_is)
    (case kn_KpV => k_is)
    (case kl_KpV => k_is)
    (case kc_KpV => k_is)
    (case kk_KpV => k_is)
    (case kf_KpS => k_is)
    (case kn_KpS => k_is)
    (case kl_KpS => k_is)
    (case kc_KpS => k_is)
    (case kk_KpS => k_is)
    (case kf_KpT => k_is)
    (case kn_KpT => k_is)
    (case kl_KpT => k_is)
    (case kc_KpT => k_is)
    (case kk_KpT => k_is)
    (case kf_KpY => k_is)
    (case kn_KpY => k_is)
    (case kl_KpY => k_is)
    (case kc_KpY => k_is)
    (case kk_KpY => k_is)
    (case kf_KpL => k_is)
    (case kn_KpL => k_is)
    (case kl_KpL => k_is)
    (case kc_KpL => k_is)
    (case kk_KpL => k_is)
    (case kf_KpA => k_is)
    (case kn_KpA => k_is)
    (case kl_KpA => k_is)
    (case kc_KpA => k_is)
    (case kk_KpA => k_is)
    (case ky_pg => k_is)
    (case ky_hd => k_is)
    (case ky_po => k_is)
    (case ky_sa => k_is)
    (case ky_house => k_is)
    (case ky_state => k_is)
    (case ky_past => k_is)
    (case ky_ca => k_is)
    (case ky_cm => k_is)
    (case ky_nt => k_is)
    (case ky_nk => k_is)
    (case ky_ic => k_is)
    (case ky_ty => k_is)
    (case ky_s1 => k_is)
    (case ky_s2 => k_is)
    (case sLT => k_is)
