import PyProof.Rows.All
import Wide.All
import OpenK.AllK
import Wide.FinOn
import HandS.ForMost
import HandS.Wide
import HandS.IsInst
import HandS.TupAny
import HandS.Zip
import HandS.Style
import HandS.Strs
import HandS.Walk
import HandS.Set
import HandS.SetFor
import HandS.More
import PySem.Challenge.RW_eachshare_k00_integers_names_and_sets
import HandS.NoneIn
/-! Rl -/
set_option Elab.async false
set_option linter.all false
set_option maxRecDepth 100000
set_option maxHeartbeats 4000000
/-! Rl: rules of my own over the hand layer: promises of defs that show values (no repr under way), powers, signs of a text, repr. -/
namespace Gd
open PySem PySem.Spec PyProof.Rows L2

/-! ### promises where no repr is under way -/
structure FnG (P : Program) (w : World) (K : PySem.W.Frag) (mg : Str → Option Value) (base : Heap) (CX : CXT) (k : Nat) (f : Addr) (fd : FuncData) (ps : List Str) (sp : Sp) : Prop where
  many : ∀ vs H Q E, sp vs H Q E → vs.length = ps.length
  go : ∀ (A : Around) (outer : List Env) (s : Shared) (H : Hp) (args : Args) (us : List Value) (vs : List V) (Q : VK) (E : XK), A.guards = some [] → Room k A → Env0 P w K mg base A outer s H →
    BindsTo s fd args (ps.zip us) → Vals vs us → sp vs H Q E → codeAny (model P w) A (.call (.ref f) args) (CR CX outer P w H s Q E) s
theorem FnG.of {P : Program} {w : World} {K : PySem.W.Frag} {mg : Str → Option Value} {base : Heap} {CX : CXT} {k : Nat} {f : Addr} {fd : FuncData} {ps : List Str} {sp : Sp} (F : FnOk P w K mg base CX k f fd ps sp) : FnG P w K mg base CX k f fd ps sp :=
  ⟨F.len, fun A outer s H args us vs Q E _ => F.run A outer s H args us vs Q E⟩

theorem fnG_of {CX : CXT} {P : Program} {w : World} {K : PySem.W.Frag} {mg : Str → Option Value} {base : Heap} {k : Nat} {f : Addr} {name qual : Str} {params : Arguments} {body : List Stmt} {scope : Scope} {dV kV doc pm cdv ct oc : Value} {an od : Option Addr}
    {osl : Array (Option Value)} {N ps : List Str} {sp : Sp} (known : K.lookup f = some ⟨oc, od, .func (PySem.W.fnOf name qual params body scope dV kV doc pm an cdv ct), osl⟩) (code : PySem.W.codeIn K cdv qual = true) (S : FnScope N ps scope)
    (many : ∀ vs H Q E, sp vs H Q E → vs.length = ps.length)
    (inside : ∀ (A : Around) (outer : List Env) (s : Shared) (H : Hp) (vs : List V) (Q : VK) (E : XK), A.guards = some [] → Room k (A.deeper (envOfC qual scope s.heap.objs.size f cdv)) → sp vs H Q E →
      ∃ t, PSs (cxOf CX P w K mg base N qual scope f cdv A outer s H E) body t ∧ t { nx := fun _ H' => Q .non H', rt := Q } (start N vs) H) :
    FnG P w K mg base CX (k + 1) f (PySem.W.fnOf name qual params body scope dV kV doc pm an cdv ct) ps sp := by
  constructor
  · exact many
  · intro A outer s H args us vs Q E gd rm e0 bn rel want
    have len1 := many _ _ _ _ want
    have kin : K.In s.heap := e0.mod.kin.keeps fun b o e => And.left (e0.bs b o e)
    have lim : s.heap.NoLimit := e0.mod.nolimit.keeps fun b o e => And.left (e0.bs b o e)
    have kinds : ∀ y ∈ ps.zip us, scope.names.lookup y.1 = some .local ∨ (scope.names.lookup y.1 = some .cell ∧ ((cellsFrom (s.heap.objs.size + 1) scope.names []).lookup y.1).isSome = true) := by
      rintro ⟨n, v⟩ hy
      cases S.par n (List.of_mem_zip hy).1 with
      | inl q => exact Or.inl q
      | inr q => exact Or.inr ⟨q, PySem.W.cellsFrom_some _ _ _ (Or.inl q)⟩
    apply codeAny_call_function rm.depth (kin _ _ known) rfl S.co S.gen rfl (PySem.W.codeRec_of kin code)
    apply bn
    apply wpAny_newFunctionEnv_cells S.kind kinds
    intro env he s1 x
    cases he
    refine And.intro (lim.keeps x.toInCall.keep) (codeAny_func ?_)
    obtain ⟨t, tree, read⟩ := inside A outer s H vs Q E gd (rm.deeper _) want
    have I0 : Inv (cxOf CX P w K mg base N qual scope f cdv A outer s H E) [] (start N vs) H s1 := inv_start S rm.hd e0 len1 rel x
    have done : ∀ {σ' : L2.St} {H' : Hp} {v : V} {u : Value} {s' : Shared}, Inv (cxOf CX P w K mg base N qual scope f cdv A outer s H E) [] σ' H' s' → RelV v u → Q v H' → CE outer P w H s Q u s' :=
      fun {σ' H' v u s'} J rv q => ⟨v, H', J.os, J.bare, J.base, J.hok, rv, q⟩
    refine wpAny_mono (tree.run [] s1 (start N vs) H _ I0 read) ?_ (fun _ _ z => z)
    intro fl s' got
    match fl, got with
    | .ret u, ⟨v, σ', H', J, rv, q⟩ => exact done J rv q
    | .next, ⟨σ', H', J, q⟩ => exact done (v := V.non) (u := Value.none) J rfl q
    | .brk, ⟨_, _, _, q⟩ => exact q.elim
    | .cont, ⟨_, _, _, q⟩ => exact q.elim

section
variable {P : Program} {w : World} {K : PySem.W.Frag} {mg : Str → Option Value} {base : Heap}
theorem okG {x qual : Str} {st : Stmt} {f : Addr} {fd : FuncData} {N ps : List Str} {k : Nat} {sp : Sp} (F : Fun K x qual st f fd) (S : FnScope N ps (defScope st)) (many : ∀ vs H Q E, sp vs H Q E → vs.length = ps.length)
    (inside : ∀ (cdv : Value) (A : Around) (outer : List Env) (s : Shared) (H : Hp) (vs : List V) (Q : VK) (E : XK), A.guards = some [] → Room k (A.deeper (envOfC qual (defScope st) s.heap.objs.size f cdv)) → sp vs H Q E →
      ∃ t, PSs (cxOf CX0 P w K mg base N qual (defScope st) f cdv A outer s H E).nox (defBody st) t ∧ t { nx := fun _ H' => Q .non H', rt := Q } (start N vs) H) : FnG P w K mg base CX0 (k + 1) f fd ps sp := by
  obtain ⟨oc, od, kV, doc, pm, an, cdv, ct, osl, rfl, lk, hcd⟩ := F.ex
  apply fnG_of lk hcd S many
  intro A outer s H vs Q E gd rm want
  obtain ⟨t, h, q⟩ := inside cdv A outer s H vs Q E gd rm want
  exact ⟨t, h.nox, q⟩
end

section
variable {X : Cx} {CX : CXT} {k : Nat} {f : Addr} {fd : FuncData} {ps : List Str} {sp : Sp} {ds : List Value} {dvs : List V} {E : XK}
theorem run_G {pins : List (Addr × Obj)} {σ : L2.St} {H : Hp} {s : Shared} {Q : VK} {us : List Value} {vs : List V} (F : FnG X.prog X.w X.K X.mg X.base CX k f fd ps sp) (gd : X.A.guards = some []) (hr : Room k X.A) (hb : Binds X.K fd ps ds) (hd : Vals dvs ds) (hx : Passes CX X E)
    (I : Inv X pins σ H s) (r : Vals vs us) (h : sp (vs ++ dvs) H Q E) : wpAny (model X.prog X.w) X.A (call (.ref f) us) (EP X pins σ Q) X.xe s := by
  have all : Vals (vs ++ dvs) (us ++ ds) := r.append hd
  have len1 : (us ++ ds).length = ps.length := (all.length).symm.trans (F.many _ _ _ _ h)
  apply wpAny_call
  refine codeAny_mono (F.go X.A X.stack s H ⟨us, []⟩ (us ++ ds) (vs ++ dvs) Q E gd hr I.env0 (hb s us I.kIn len1) all h) ?_
  intro r s' got
  match r, got with
  | .error e, got => exact hx pins σ H s e s' I got
  | .ok (.ret u), got => exact I.after got
  | .ok .next, got => exact got.elim
  | .ok .brk, got => exact got.elim
  | .ok .cont, got => exact got.elim
theorem pe_callG {x : Str} {p pos : Pos} {e : Expr} {es : List Expr} {t : TA} (F : FnG X.prog X.w X.K X.mg X.base CX k f fd ps sp) (gd : X.A.guards = some []) (hr : Room k X.A) (hg : Gl X x) (hm : X.mg x = some (.ref f)) (hk : PySem.W.keepIn X.K (.ref f) = true) (hb : Binds X.K fd ps ds) (hd : Vals dvs ds) (hx : Passes CX X E)
    (ha : PA X (e :: es) t) (hdb : (x == ("__debug__" : Str)) = false := by decide) (he : starEach (e :: es) X.env = (false, eval e X.env) :: starEach es X.env := by rfl) (hpl : (backTo pos (starEach es X.env)).any (·.1) = false := by rfl) :
    PE X (.Call (.Name x p) (e :: es) [] pos) (tCall sp dvs E t) := by
  constructor
  intro pins s σ H Q I h
  apply wpAny_Call_Name_kw
  refine ld_glob I hg hm ?_ hdb
  refine PySem.W.callWith_K (h₀ := X.base) I.ok.mod.kin hk ?_ he hpl
  refine thn (ha.run pos pins s σ H _ I h) ?_
  rintro us s1 ⟨vs, H1, I1, r, q⟩
  exact ⟨I1.kIn, run_G F gd hr hb hd hx I1 r q⟩
end

/-! ### the end of a law whose promise stands where no repr is under way -/
theorem law_G {P : Program} {w : World} {K : PySem.W.Frag} {mg mb : Str → Option Value} {k : Nat} {fa a : Addr} {fd : FuncData} {x : Str} {sp : Sp} {s₁ : Shared} {vs : List Value} {ns : List Int}
    (KX : K.In s₁.heap) (hns : s₁.heap.Ns mainGlobals mg) (hb : s₁.heap.Ns builtinsNs mb) (hbb : ∀ x : Str, x ≠ "__name__" → mb x = bootBuiltins x) (hlim : s₁.heap.NoLimit) (hg : s₁.gens = #[])
    (ha : s₁.heap.get? a = some { cls := .type "list", data := .seq vs.toArray }) (hi : IntsAre vs ns) (hl : ns.length ≤ sizeLine) (hr : Room k callerA)
    (F : ∀ base : Heap, K.In base → base.Ns mainGlobals mg → FnG P w K mg base CX0 k fa fd [x] sp) (hbind : ∀ (s : Shared) (u : Value), BindsTo s fd ⟨[u], []⟩ [(x, u)])
    (hsp : ∀ H : Hp, Only H → SqL K H a (ns.map V.int) → sp [.ref a] H (fun v _ => v = .bl true) fun _ _ _ => False) :
    codeAny (model P w) callerA (.call (.ref fa) ⟨[.ref a], []⟩) (fun r s' => r = .ok (.ret (.bool true)) ∧ OldK s₁.heap s'.heap ∧ s'.os = s₁.os ∧ AllBare s'.gens) s₁ := by
  have rv := vals_ints hi
  have len1 : vs.length = ns.length := hi.length
  have heart : ∀ H : Hp, Only H → SqL K H a (ns.map V.int) → HOk P w H s₁.heap → (∀ b, H b ≠ none → b = a) → (H a ≠ none → K.lookup a = none) →
      codeAny (model P w) callerA (.call (.ref fa) ⟨[.ref a], []⟩) (fun r s' => r = .ok (.ret (.bool true)) ∧ OldK s₁.heap s'.heap ∧ s'.os = s₁.os ∧ AllBare s'.gens) s₁ := by
    intro H only seq ok alone apart
    have keepK : K.In (hidT s₁.heap H) := by
      intro b o e
      refine hidT_get (KX b o e) ?_
      by_cases z : H b = none
      · exact z
      · have := alone b z
        subst this
        rw [apart z] at e
        cases e
    have plain : ∀ {b : Addr} {o : Obj} {es : Array DictEntry} {ep : Nat}, s₁.heap.get? b = some o → o.data = .dict es ep → H b = none := by
      intro b o es ep e d
      by_cases z : H b = none
      · exact z
      · have := alone b z
        subst this
        rw [ha] at e
        cases e
        exact absurd (show Data.seq vs.toArray _ = Data.dict es ep from d) (fun q => nomatch q)
    have keepN : ∀ {b : Addr} {m : Str → Option Value}, s₁.heap.Ns b m → (hidT s₁.heap H).Ns b m := by
      rintro b m ⟨o, es, ep, e, d, r⟩
      exact ⟨o, es, ep, hidT_get e (plain e d), d, r⟩
    have md : Mod K mg (hidT s₁.heap H) := by
      obtain ⟨mc, l1, l2⟩ := hlim
      exact ⟨keepK, keepN hns, ⟨mb, keepN hb, hbb⟩, ⟨mc, keepN l1, l2⟩⟩
    have e0 : Env0 P w K mg (hidT s₁.heap H) callerA [] s₁ H :=
      { frames := rfl, mod := md, bs := fun b o e => of_hidT e, bsz := Nat.le_of_eq (hidT_size _ _), funs := trivial, frf := (fun b z => by cases z), hok := ok, bare := .of_eq hg }
    have ran := (F _ keepK (keepN hns)).go callerA [] s₁ H ⟨[.ref a], []⟩ [.ref a] [.ref a] _ _ rfl hr e0 (hbind s₁ (.ref a)) (.cons rfl .nil) (hsp H only seq)
    refine codeAny_mono ran ?_
    intro r s' got
    match r, got with
    | .error e, got => exact (show False from got).elim
    | .ok .next, got => exact got.elim
    | .ok .brk, got => exact got.elim
    | .ok .cont, got => exact got.elim
    | .ok (.ret u), ⟨v, H', os, bare, un, ok', rel, q⟩ =>
      have qv : v = .bl true := q
      subst qv
      have qu : u = Value.bool true := rel
      subst qu
      refine ⟨rfl, OldK.of_keep fun b o e => ?_, os, bare⟩
      rcases only b with z | ⟨ob, xs, z⟩
      · exact un.keep b o e z (by intro m; cases m) (by intro m; cases m)
      · have z2 := un.frzs b ob _ z
        have g1 := (ok b _ z).1
        have g2 := (ok' b _ z2).1
        rw [e] at g1
        cases g1
        exact g2
  by_cases hk : ∃ o, K.lookup a = some o
  · obtain ⟨o, hk⟩ := hk
    have e := KX a o hk
    rw [ha] at e
    cases e
    refine heart (fun _ => none) (fun _ => Or.inl rfl) ?_ (fun b u z => by cases z) (fun b z => absurd rfl z) (fun z => absurd rfl z)
    exact Or.inr ⟨_, vs.toArray, _, hk, rfl, rfl, rfl, by rw [List.size_toArray, len1]; exact hl, by simpa using rv⟩
  · have hk0 : K.lookup a = none := by
      cases q : K.lookup a with
      | none => rfl
      | some o => exact absurd ⟨o, q⟩ hk
    let H0 : Hp := fun b => if b = a then some (.frz { cls := .type "list", data := .seq vs.toArray } (.lst (ns.map V.int))) else none
    have at0 : H0 a = some (.frz { cls := .type "list", data := .seq vs.toArray } (.lst (ns.map V.int))) := if_pos rfl
    have off0 : ∀ b, b ≠ a → H0 b = none := fun b q => if_neg q
    refine heart H0 (fun b => ?_) (Or.inl (Or.inr ⟨_, at0⟩)) (fun b u z => ?_) (fun b z => ?_) (fun _ => hk0)
    · by_cases q : b = a
      · subst q
        exact Or.inr ⟨_, _, at0⟩
      · exact Or.inl (off0 b q)
    · by_cases q : b = a
      · subst q
        rw [at0] at z
        cases z
        exact ⟨ha, by rw [List.length_map]; exact hl, vs, _, rv, ha⟩
      · rw [off0 b q] at z
        cases z
    · by_cases q : b = a
      · exact q
      · exact absurd (off0 b q) z

theorem walk_G {l : PySem.W.OpenLaw} {n k : Nat} {q : Program} {loose : List Str} {XP : (Str → Option Value) → Heap → Prop} {YP : World → Heap → Prop} {d : DefRec} {K : Params → PySem.W.Frag} {sp : World → Sp} {x : Str}
    (hn : l.most = some n) (hn2 : n ≤ sizeLine) (hdf : d.params.defaults = []) (hr : Room k callerA)
    (hY : ∀ (w : World) (h : Heap), YP w h → (K w.params).In h)
    (F : ∀ (w : World) (mg : Str → Option Value) (fa : Addr) (h : Heap), (K w.params).In h → h.Ns mainGlobals mg → mg d.name = some (.ref fa) →
      ∃ fd : FuncData, (∀ (s : Shared) (u : Value), BindsTo s fd ⟨[u], []⟩ [(x, u)]) ∧
        ∀ base : Heap, (K w.params).In base → base.Ns mainGlobals mg → FnG l.prog w (K w.params) mg base CX0 k fa fd [x] (sp w))
    (hsp : ∀ (w : World) (H : Hp) (a : Addr) (ns : List Int), ns.length ≤ n → Only H → SqL (K w.params) H a (ns.map V.int) → sp w [.ref a] H (fun v _ => v = .bl true) fun _ _ _ => False) :
    PySem.W.WalkO q loose XP YP l.row.toRowW d [] (fun f vs => PySem.call f vs) := by
  apply Att.attach_call hn hdf
  intro w s₀ s₁ mg mb fa o pm cd doc a vs ns G Y ho hd hcd hmg hobj hints hlen hg
  have kin := hY w _ Y
  obtain ⟨fd, bind, all⟩ := F w mg fa _ kin G.T.g hmg
  exact law_G kin G.T.g G.T.b G.T.builtins G.T.nolimit hg hobj hints (Nat.le_trans hlen hn2) hr all bind (fun H o1 o2 => hsp w H a ns hlen o1 o2)
end Gd
/-! R2 -/
set_option Elab.async false
set_option linter.all false
set_option maxRecDepth 100000
set_option maxHeartbeats 4000000
namespace Gd
open PySem PySem.Spec PyProof.Rows L2
section
variable {X : Cx}
/-! ### a power with a bounded result -/
def CPowB (i j : Int) : Prop := 0 ≤ j ∧ (Builtin.Int.intBits i : Int) * j ≤ 2 ^ 27
theorem op_powB : OpR X (binaryOp .Pow) (rI CPowB fun i j => .int (i ^ j.toNat)) := opI fun _ _ _ _ _ _ _ hc q => pow_int hc.1 hc.2 q
/-! ### text * number -/
def repS (z : Str) (n : Nat) : Str := ⟨(List.replicate n z.cps.toList).flatten.toArray⟩
theorem foldl_cat : ∀ (l : List (Array Nat)) (a : Array Nat), (l.foldl (· ++ ·) a).toList = a.toList ++ (l.map (·.toList)).flatten
  | [], a => by simp
  | x :: l, a => by
    rw [List.foldl_cons, foldl_cat l (a ++ x)]
    simp
theorem mul_rep (z : Str) (n : Int) (h1 : 0 ≤ n) : Txt.mul z n = repS z n.toNat := by
  have hz : z = ⟨z.cps⟩ := rfl
  unfold Txt.mul repS
  by_cases h : n < 1
  · rw [if_pos h]
    have e : n.toNat = 0 := by omega
    rw [e]
    rfl
  · rw [if_neg h]
    by_cases h2 : (n == 1 || z.length == 0) = true
    · rw [if_pos h2, Bool.or_eq_true] at *
      rcases h2 with e | e
      · have e1 : n = 1 := eq_of_beq e
        subst e1
        show z = _
        have : (List.replicate (Int.toNat 1) z.cps.toList).flatten.toArray = z.cps := by
          show (List.replicate 1 z.cps.toList).flatten.toArray = z.cps
          simp
        rw [this]
      · have e1 : z.cps.toList = [] := by
          have : z.cps.size = 0 := eq_of_beq e
          exact List.eq_nil_of_length_eq_zero (by rw [Array.length_toList]; exact this)
        have : (List.replicate n.toNat z.cps.toList).flatten = [] := by
          rw [e1]
          exact List.flatten_eq_nil_iff.mpr fun l hl => (List.mem_replicate.mp hl).2
        rw [this]
        show z = ⟨#[]⟩
        cases z with
        | mk c => 
          have : c = #[] := Array.toList_inj.mp (by simpa using e1)
          rw [this]
    · rw [if_neg h2]
      congr 1
      apply Array.toList_inj.mp
      rw [foldl_cat]
      simp
def rMulS : R2 := fun x y H Q => ∃ (z : Str) (n : Int), x = .str z ∧ y = .int n ∧ 0 ≤ n ∧ n ≤ 1000 ∧ z.length ≤ 1000 ∧ Q (.str (repS z n.toNat)) H
theorem op_mul_str : OpR X (binaryOp .Mult) rMulS := by
  intro pins s σ H x y v u Q I rx ry h
  obtain ⟨z, n, rfl, rfl, h0, h1, h2, q⟩ := h
  obtain ⟨t, rfl⟩ := rx
  obtain ⟨t', rfl⟩ := ry
  refine SB.mul (n := n) ⟨?_, ?_, ?_⟩ fun t' k => ⟨.str (repS z n.toNat), H, I.tok _, ⟨t', by rw [mul_rep z n h0]⟩, q⟩
  · have a : ¬ n < -(2 ^ 63 : Int) := by omega
    have b : ¬ n ≥ (2 ^ 63 : Int) := by omega
    rw [decide_eq_false a, decide_eq_false b]
    rfl
  · intro _ _ g
    have p : 0 < n := by
      rcases Int.lt_or_le 0 n with p | p
      · exact p
      · have : n = 0 := by omega
        subst this
        omega
    have : ((2 : Int) ^ 63 - 1) / 1000 ≤ (2 ^ 63 - 1) / n := Int.le_ediv_of_mul_le p (by
      have : ((2 : Int) ^ 63 - 1) / 1000 * n ≤ (2 ^ 63 - 1) / 1000 * 1000 := Int.mul_le_mul_of_nonneg_left h1 (by decide)
      exact Int.le_trans this (by decide))
    have c : (1000 : Int) ≤ (2 ^ 63 - 1) / 1000 := by decide
    have : (z.length : Int) ≤ 1000 := by omega
    omega
  · intro _ _
    have : z.length * n.toNat ≤ 1000 * 1000 := Nat.mul_le_mul h2 (by omega)
    have b : 1000 * 1000 ≤ sizeLine := by decide
    exact decide_eq_false (by omega)
/-! ### list(text) -/
def signsV (z : Str) : List V := z.cps.toList.map fun c => V.str ⟨#[c]⟩
theorem vals_of_signs (z : Str) (acc : Array Value) (h : ItemsOf (SignAt z) acc z.cps.size) : Vals (signsV z) acc.toList := by
  have key : ∀ (l : List Nat) (us : List Value), l.length = us.length → (∀ (j : Nat) (v : Value), us[j]? = some v → ∃ c u, l[j]? = some c ∧ v = .str ⟨#[c]⟩ u) → Vals (l.map fun c => V.str ⟨#[c]⟩) us := by
    intro l
    induction l with
    | nil =>
      intro us e _
      cases us with
      | nil => exact .nil
      | cons _ _ => cases e
    | cons c l ih =>
      intro us e g
      cases us with
      | nil => cases e
      | cons v us =>
        obtain ⟨c', u, h1, h2⟩ := g 0 v rfl
        have : c = c' := Option.some.inj h1
        subst this
        refine .cons ⟨u, h2⟩ (ih us (Nat.succ.inj e) fun j v hv => ?_)
        obtain ⟨c2, u2, h3, h4⟩ := g (j + 1) v hv
        exact ⟨c2, u2, h3, h4⟩
  refine key z.cps.toList acc.toList (by rw [Array.length_toList, Array.length_toList]; exact h.1.symm) fun j v hv => ?_
  obtain ⟨c, u, h1, h2⟩ := h.2 j v (by simpa using hv)
  exact ⟨c, u, by simpa using h1, h2⟩
def rListS : List V → Hp → VK → Prop := fun xs H Q => ∃ z, xs = [.str z] ∧ z.length ≤ sizeLine ∧ ∀ l, H l = none → Q (.ref l) (upd H l (.lst (signsV z)))
theorem call_listS (hc : X.calm = true) : CallR X (.type "list") rListS := by
  intro pins s σ H xs us Q I r h
  obtain ⟨z, rfl, hz, q⟩ := h
  obtain ⟨u, rfl, t, rfl⟩ := vals1 r
  refine PySem.call_list_str (I.ok.hd hc) z t (fun h' tk acc' c' hk hS hA => ?_) hz
  have rv := vals_of_signs z acc' hA
  have new : ObjOk X.prog X.w (upd H s.heap.objs.size (.lst (signsV z))) h' s.heap.objs.size (.lst (signsV z)) :=
    ⟨by unfold signsV; rw [List.length_map, Array.length_toList]; exact hz, acc'.toList, c', rv, by simpa using hS⟩
  exact ⟨.ref s.heap.objs.size, _, I.laid (t' := tk) hk (Nat.le_refl _) new, rfl, q _ (I.hok.fresh (Nat.le_refl _))⟩
/-! ### repr of data, where no repr is under way -/
def rRepr (K : PySem.W.Frag) : List V → Hp → VK → Prop := fun xs H Q => ∃ (a : Addr) (d : PyData), xs = [.ref a] ∧ Dp K H (.ref a) d ∧ d.showable = true ∧ d.hasDict = false ∧ d.depth ≤ 40 ∧ d.shown.length ≤ sizeLine ∧ Q (.str d.shown) H
theorem call_reprD (gd : X.A.guards = some []) (hu : X.A.units + 64 < cLine) : CallR X (.builtin "repr") (rRepr X.K) := by
  intro pins s σ H xs us Q I r h
  obtain ⟨a, d, rfl, hd, h1, h2, h3, h4, q⟩ := h
  obtain ⟨u, rfl, rx⟩ := vals1 r
  obtain ⟨as, rd⟩ := Dp.reads I d (.ref a) u hd rx
  have rx' : u = Value.ref a := rx
  subst rx'
  exact repr_of_reads' rd h1 (PyData.noDict_hsm h2) gd (by omega) (fun _ _ e => e) (fun h' u tk hk => ⟨.str d.shown, H, I.kept (t' := tk) hk, ⟨u, rfl⟩, q⟩) h4
end
end Gd
/-! R3 -/
set_option Elab.async false
set_option linter.all false
set_option maxRecDepth 100000
set_option maxHeartbeats 4000000
/-! R3: the rules whose reading names the written part, with that part given (so that they serve inside a comprehension). -/
namespace Gd
open PySem PySem.Spec PyProof.Rows L2
section
variable {X : Cx} (K : PySem.W.Frag) (h : X.K = K := by rfl)
include h
theorem ix_listK : IxR X (rIxL K) := by subst h; exact ix_list
theorem ix_tupK : IxR X (rIxT K) := by subst h; exact ix_tup
theorem op_in_seqK : OpR X (compareOp .In) (rIn K false) := by subst h; exact op_in_seq
theorem op_notIn_seqK : OpR X (compareOp .NotIn) (rIn K true) := by subst h; exact op_notIn_seq
theorem sl_listK : SlR X (rSlL K) := by subst h; exact sl_list
theorem sl_tupK : SlR X (rSlA K) := by subst h; exact sl_tupA
theorem op_catTK : OpR X (binaryOp .Add) (rCatA K) := by subst h; exact op_catA
theorem call_isiK1 : CallR X (.builtin "isinstance") (rIsi K) := by subst h; exact call_isi
theorem cr_sortedSK : CallR X (.builtin "sorted") (rSortedS K) := by subst h; exact cr_sortedS
theorem call_lenK : CallR X (.builtin "len") (fun xs H Q => ∃ p ys, xs = [.ref p] ∧ (SqL K H p ys ∨ SqT K H p ys) ∧ Q (.int ys.length) H) := by subst h; exact call_len_seq
theorem call_listK : CallR X (.type "list") (fun xs H Q => ∃ p ys, xs = [.ref p] ∧ (SqL K H p ys ∨ SqT K H p ys) ∧ ∀ l, H l = none → Q (.ref l) (upd H l (.lst ys))) := by subst h; exact call_list_of
theorem call_tupleK : CallR X (.type "tuple") (fun xs H Q => ∃ p ys, xs = [.ref p] ∧ ((SqL K H p ys ∧ ∀ l, H l = none → Q (.ref l) (upd H l (.tup ys))) ∨ (SqT K H p ys ∧ Q (.ref p) H))) := by subst h; exact call_tuple_of
end
section
variable {X : Cx} (K : PySem.W.Frag)
theorem cr_allK (hc : X.calm = true) (h : X.K = K := by rfl) : CallR X (.builtin "all") (rAll K) := by subst h; exact cr_all hc
theorem cr_anyK (hc : X.calm = true) (h : X.K = K := by rfl) : CallR X (.builtin "any") (rAny K) := by subst h; exact cr_any hc
theorem op_eqDK (hu : X.A.units + 64 < cLine) (h : X.K = K := by rfl) : OpR X (compareOp .Eq) (rEqD K) := by subst h; exact op_eqD hu
theorem op_neDK (hu : X.A.units + 64 < cLine) (h : X.K = K := by rfl) : OpR X (compareOp .NotEq) (rNeD K) := by subst h; exact op_neD hu
theorem call_reprK (gd : X.A.guards = some []) (hu : X.A.units + 64 < cLine) (h : X.K = K := by rfl) : CallR X (.builtin "repr") (rRepr K) := by subst h; exact call_reprD gd hu
variable {e o : Expr} {es : List Expr} {to te : TE} {t : TA} {name f : Str} {apos cpos pos : Pos} {T id : String} {r : V → List V → Hp → VK → Prop}
theorem pe_bmK (pa : PlainAttrs T) (slot : Slot T name id) (hty : typeOf (.builtin id) = pure (.type "method_descriptor")) (hm : MtR X id r) (ho : PE X o to) (ha : PA X (e :: es) t)
    (h : X.K = K := by rfl) (hbase : attributeBase o name X.env (eval o X.env) = eval o X.env := by rfl)
    (hfew : ((backTo cpos (starEach (e :: es) X.env)).all (fun x => !x.1) && (backToKw cpos (keywordEach [] X.env)).all (fun x => x.1.isSome)
      && decide ((e :: es).length + ([] : List Keyword).length + (if ([] : List Keyword).isEmpty then 0 else 1) < 30)) = true := by rfl)
    (hline : (apos.endLine == cpos.line) = true := by rfl) (hs : starEach (e :: es) X.env = (false, eval e X.env) :: starEach es X.env := by rfl) (hplain : (backTo cpos (starEach es X.env)).any (·.1) = false := by rfl) :
    PE X (.Call (.Attribute o name apos) (e :: es) [] cpos) (tBM K T r to t) := by
  subst h
  exact pe_bm pa slot hty hm ho ha hbase hfew hline hs hplain
theorem pe_bm0K (pa : PlainAttrs T) (slot : Slot T name id) (hty : typeOf (.builtin id) = pure (.type "method_descriptor")) (hm : MtR X id r) (ho : PE X o to) (h : X.K = K := by rfl)
    (hbase : attributeBase o name X.env (eval o X.env) = eval o X.env := by rfl) (hline : (apos.endLine == cpos.line) = true := by rfl) : PE X (.Call (.Attribute o name apos) [] [] cpos) (tBM0 K T r to) := by
  subst h
  exact pe_bm0 pa slot hty hm ho hbase hline
def rJoin (K : PySem.W.Frag) : V → List V → Hp → VK → Prop := fun x xs H Q => ∃ a p, ∃ ys : List Str, x = .str a ∧ xs = [.ref p] ∧ (SqL K H p (ys.map V.str) ∨ SqT K H p (ys.map V.str)) ∧
      (ys.map (·.length)).sum + ys.length * a.length ≤ 16777216 ∧ Q (.str (Txt.join a ys)) H
theorem pe_joinK (ho : PE X o to) (he : PE X e te) (h : X.K = K := by rfl) (hs : starEach [e] X.env = [(false, eval e X.env)] := by rfl) (hbase : attributeBase o "join" X.env (eval o X.env) = eval o X.env := by rfl) (hline : (apos.endLine == pos.line) = true := by rfl) :
    PE X (.Call (.Attribute o "join" apos) [e] [] pos) (tM1 (rJoin K) to te) := by
  subst h
  exact pe_join ho he hs hbase hline
theorem pe_fldK (he : PE X e te) (hb : attributeBase e f X.env (eval e X.env) = eval e X.env) (h : X.K = K := by rfl) : PE X (.Attribute e f pos) (tFld K te f) := by
  subst h
  exact pe_fld he hb
end
theorem pg_tupK {X : Cx} (K : PySem.W.Frag) (n : Nat) {es : List Expr} {k : Nat} {pos : Pos} {t : TGs} (hc : X.calm = true) (g : PGs X es t) (h : X.K = K := by rfl)
    (hn : (assignEach es X.env).length = n := by rfl) (hst : (assignEach es X.env).findIdx? (·.1) = none := by rfl) : PG X (.Tuple es k pos) (gTup K n t) := by
  subst h
  exact pg_tup hc g hn hst
/-- the empty tuple -/
theorem pe_tup0 {X : Cx} {j : Nat} {pos : Pos} : PE X (.Tuple [] j pos) (tTup tNil) := pe_tup pa_nil
end Gd
/-! R4 -/
set_option Elab.async false
set_option linter.all false
set_option maxRecDepth 100000
set_option maxHeartbeats 4000000
namespace Gd
open PySem PySem.Spec PyProof.Rows L2
theorem same_new {H : Hp} {p : Addr} (h : H p = none) (o : HO) : Same H (upd H p o) := fun b x e => by
  rw [upd_ne (ne_of_none e h)]
  exact e
/-- a comprehension whose turns change nothing that stood: the items xs, those that pass, what is made of them -/
theorem lc_pure {J : It} {xs : List V} {G : Hp → Prop} (w : Walk J xs.length G (fun i H x H' => Same H H' ∧ xs[i]? = some x)) {g : TG} {tt : TT} {te : TE} {vs : List Nat} {σ : L2.St} {H1 : Hp} {D : Addr} {Qd : Hp → Prop}
    (p : V → Bool) (f : V → V) (nD : H1 D = none) (hn : xs.length ≤ 100000) (hG : ∀ H, Same H1 H → G H)
    (hs : ∀ x H (N1 : VK) (N0 : Hp → Prop), x ∈ xs → Same H1 H → (p x = true → ∀ H', Same H H' → N1 (f x) H') → (p x = false → ∀ H', Same H H' → N0 H') →
      g x (wipe σ vs) H fun σ2 H2 => wipe σ2 vs = wipe σ vs ∧ tt σ2 H2 fun b H3 => if b = true then te σ2 H3 N1 else N0 H3)
    (hd : ∀ H, Same H1 H → H D = some (.lst ((xs.filter p).map f)) → Qd H) :
    ∃ W : Nat → Nat → Hp → Prop, (∃ m, W 0 m (upd H1 D (.lst []))) ∧ ∀ i m H, W i m H →
      (J.stop i H ∧ Qd H) ∨ (J.go i H ∧ ∃ Nx : Hp → Prop, (∀ H', Nx H' → ∃ m', m' < m ∧ W (i + 1) m' H') ∧ ∀ x H', J.yld i H x H' → g x (wipe σ vs) H' fun σ2 H2 => wipe σ2 vs = wipe σ vs ∧ tt σ2 H2 fun b H3 =>
        if b = true then te σ2 H3 fun y H4 => ∃ acc, H4 D = some (.lst acc) ∧ acc.length < sizeLine ∧ Nx (upd H4 D (.lst (acc ++ [y]))) else Nx H3) := by
  refine lc_it w (fun i H => Same H1 H ∧ H D = some (.lst (((xs.take i).filter p).map f))) ⟨same_new nD _, upd_same⟩ (fun i H _ q => hG H q.1) ?_ ?_
  · rintro i x H H' hi ⟨s1, eD⟩ ⟨s2, ex⟩
    have mem : x ∈ xs := List.mem_of_getElem? ex
    have tk : xs.take (i + 1) = xs.take i ++ [x] := by rw [List.take_add_one, ex]; rfl
    refine hs x H' _ _ mem (s1.trans s2) (fun hp H4 s4 => ?_) (fun hp H3 s3 => ?_)
    · have eD4 : H4 D = some (.lst (((xs.take i).filter p).map f)) := s4 _ _ (s2 _ _ eD)
      refine ⟨_, eD4, ?_, ?_, ?_⟩
      · have a1 : (((xs.take i).filter p).map f).length ≤ 100000 := by
          rw [List.length_map]
          refine Nat.le_trans (List.length_filter_le _ _) ?_
          rw [List.length_take]
          omega
        exact Nat.lt_of_le_of_lt a1 (by decide)
      · intro b o e
        have hbD : b ≠ D := ne_of_none e nD
        rw [upd_ne hbD]
        exact s4 _ _ (s2 _ _ (s1 _ _ e))
      · rw [upd_same, tk, List.filter_append, List.map_append]
        have : [x].filter p = [x] := by simp [hp]
        rw [this]
        rfl
    · refine ⟨fun b o e => s3 _ _ (s2 _ _ (s1 _ _ e)), ?_⟩
      have : [x].filter p = [] := by simp [hp]
      rw [tk, List.filter_append, this, List.append_nil]
      exact s3 _ _ (s2 _ _ eD)
  · rintro H ⟨s1, eD⟩
    rw [List.take_length] at eD
    exact hd H s1 eD
/-- the same over pairs that are made on the way -/
theorem lc_pair {J : It} {xs ys : List V} {n : Nat} {G : Hp → Prop} (w : Walk J n G (YPair (fun i => xs[i]?) (fun i => ys[i]?))) (hw : n = min xs.length ys.length) {g : TG} {tt : TT} {te : TE} {vs : List Nat} {σ : L2.St} {H1 : Hp} {D : Addr} {Qd : Hp → Prop}
    (f : V → V → V) (nD : H1 D = none) (hn : n ≤ 100000) (hG : ∀ H, Same H1 H → G H)
    (hs : ∀ x y T H (N1 : VK) (N0 : Hp → Prop), x ∈ xs → y ∈ ys → Same H1 H → H T = some (.tup [x, y]) → (∀ H', Same H H' → N1 (f x y) H') →
      g (.ref T) (wipe σ vs) H fun σ2 H2 => wipe σ2 vs = wipe σ vs ∧ tt σ2 H2 fun b H3 => if b = true then te σ2 H3 N1 else N0 H3)
    (hd : ∀ H, Same H1 H → H D = some (.lst (List.zipWith f xs ys)) → Qd H) :
    ∃ W : Nat → Nat → Hp → Prop, (∃ m, W 0 m (upd H1 D (.lst []))) ∧ ∀ i m H, W i m H →
      (J.stop i H ∧ Qd H) ∨ (J.go i H ∧ ∃ Nx : Hp → Prop, (∀ H', Nx H' → ∃ m', m' < m ∧ W (i + 1) m' H') ∧ ∀ x H', J.yld i H x H' → g x (wipe σ vs) H' fun σ2 H2 => wipe σ2 vs = wipe σ vs ∧ tt σ2 H2 fun b H3 =>
        if b = true then te σ2 H3 fun y H4 => ∃ acc, H4 D = some (.lst acc) ∧ acc.length < sizeLine ∧ Nx (upd H4 D (.lst (acc ++ [y]))) else Nx H3) := by
  refine lc_it w (fun i H => Same H1 H ∧ H D = some (.lst ((List.zipWith f xs ys).take i))) ⟨same_new nD _, upd_same⟩ (fun i H _ q => hG H q.1) ?_ ?_
  · rintro i v H H' hi ⟨s1, eD⟩ ⟨T, x, y, rfl, nT, rfl, ex, ey⟩
    have s2 : Same H (upd H T (.tup [x, y])) := same_new nT _
    have ez : (List.zipWith f xs ys)[i]? = some (f x y) := by
      rw [List.getElem?_zipWith]
      have ex' : xs[i]? = some x := ex
      have ey' : ys[i]? = some y := ey
      rw [ex', ey']
    have tk : (List.zipWith f xs ys).take (i + 1) = (List.zipWith f xs ys).take i ++ [f x y] := by rw [List.take_add_one, ez]; rfl
    refine hs x y T _ _ _ (List.mem_of_getElem? ex) (List.mem_of_getElem? ey) (s1.trans s2) upd_same (fun H4 s4 => ?_)
    refine ⟨_, s4 _ _ (s2 _ _ eD), ?_, ?_, ?_⟩
    · have : ((List.zipWith f xs ys).take i).length ≤ 100000 := by
        rw [List.length_take, List.length_zipWith]
        omega
      exact Nat.lt_of_le_of_lt this (by decide)
    · intro b o e
      rw [upd_ne (ne_of_none e nD)]
      exact s4 _ _ (s2 _ _ (s1 _ _ e))
    · rw [upd_same, tk]
  · rintro H ⟨s1, eD⟩
    refine hd H s1 ?_
    rw [List.take_of_length_le (by rw [List.length_zipWith]; omega)] at eD
    exact eD
theorem walk_zipT {K : PySem.W.Frag} {a b : Addr} {xs ys : List V} {n : Nat} (hn : n = min xs.length ys.length) : Walk (RZ.ItzT K a b) n (fun H => SqT K H a xs ∧ SqT K H b ys) (YPair (fun i => xs[i]?) (fun i => ys[i]?)) := by
  subst hn
  constructor
  · intro i H hi q
    have h1 : i < xs.length := by omega
    have h2 : i < ys.length := by omega
    exact ⟨xs, ys, xs[i], ys[i], q.1, q.2, by simp [h1], by simp [h2]⟩
  · exact fun H q => ⟨xs, ys, q.1, q.2, by omega⟩
  · intro i H v H' hi q y
    obtain ⟨T, x, z, h1, h2, h3, h4, h5⟩ := y
    exact ⟨T, x, z, h1, h2, h3, h4 xs q.1, h5 ys q.2⟩
theorem walk_strV {z : Str} : Walk (Its z) (signsV z).length (fun _ => True) (fun i H x H' => Same H H' ∧ (signsV z)[i]? = some x) := by
  have e : (signsV z).length = z.cps.size := by unfold signsV; rw [List.length_map, Array.length_toList]
  rw [e]
  refine (walk_str (z := z)).mono (fun _ h => h) ?_
  rintro i H x H' hi _ ⟨rfl, c, hc, rfl⟩
  refine ⟨Same.refl _, ?_⟩
  unfold signsV
  rw [List.getElem?_map, Array.getElem?_toList, hc]
  rfl
theorem walk_tupV {K : PySem.W.Frag} {a : Addr} {xs : List V} : Walk (Itt K a) xs.length (fun H => SqT K H a xs) (fun i H x H' => Same H H' ∧ xs[i]? = some x) :=
  walk_tup.mono (fun _ h => h) fun i H x H' _ _ y => ⟨by rw [y.1]; exact Same.refl _, y.2⟩
theorem walk_lstV {K : PySem.W.Frag} {a : Addr} {xs : List V} : Walk (Itl K a) xs.length (fun H => SqL K H a xs) (fun i H x H' => Same H H' ∧ xs[i]? = some x) :=
  walk_list.mono (fun _ h => h) fun i H x H' _ _ y => ⟨by rw [y.1]; exact Same.refl _, y.2⟩
end Gd
/-! R5 -/
set_option Elab.async false
set_option linter.all false
set_option maxRecDepth 100000
set_option maxHeartbeats 4000000
/-! R5: sets of keys of one kind, with a table that can be walked: made of a list or tuple, sorted. -/
namespace Gs
open PySem PySem.Spec PyProof.Rows L2
theorem paired_perm {α β : Type} {R : α → β → Prop} {l l' : List α} (pm : l'.Perm l) : ∀ {ks : List β}, Paired R l ks → ∃ ks', Paired R l' ks' ∧ ks'.Perm ks := by
  induction pm with
  | nil => exact fun h => ⟨_, h, .refl _⟩
  | cons x _ ih =>
    intro ks h
    cases h with
    | cons r t =>
      obtain ⟨ks', h1, h2⟩ := ih t
      exact ⟨_, .cons r h1, h2.cons _⟩
  | swap x y l =>
    intro ks h
    cases h with
    | cons r t =>
      cases t with
      | cons r2 t2 => exact ⟨_, .cons r2 (.cons r t2), .swap _ _ _⟩
  | trans _ _ ih1 ih2 =>
    intro ks h
    obtain ⟨k2, a1, a2⟩ := ih2 h
    obtain ⟨k1, b1, b2⟩ := ih1 a1
    exact ⟨k1, b1, b2.trans a2⟩
theorem paired_left {α β : Type} {R : α → β → Prop} : ∀ {l : List α} {ks : List β}, Paired R l ks → ∀ x ∈ l, ∃ k ∈ ks, R x k
  | _, _, .nil => fun x h => by cases h
  | _, _, .cons r t => fun x h => by
    rcases List.mem_cons.mp h with e | e
    · subst e; exact ⟨_, List.mem_cons_self, r⟩
    · obtain ⟨k, h1, h2⟩ := paired_left t x e
      exact ⟨k, List.mem_cons_of_mem _ h1, h2⟩
theorem paired_right {α β : Type} {R : α → β → Prop} : ∀ {l : List α} {ks : List β}, Paired R l ks → ∀ k ∈ ks, ∃ x ∈ l, R x k
  | _, _, .nil => fun x h => by cases h
  | _, _, .cons r t => fun x h => by
    rcases List.mem_cons.mp h with e | e
    · subst e; exact ⟨_, List.mem_cons_self, r⟩
    · obtain ⟨k, h1, h2⟩ := paired_right t x e
      exact ⟨k, List.mem_cons_of_mem _ h1, h2⟩
theorem paired_len {α β : Type} {R : α → β → Prop} : ∀ {l : List α} {ks : List β}, Paired R l ks → l.length = ks.length
  | _, _, .nil => rfl
  | _, _, .cons _ t => congrArg Nat.succ (paired_len t)

section
variable {κ : Type} [DecidableEq κ] {P : Program} {w : World} (knd : KeyKind P w κ)
abbrev IsK : Int × Value → κ → Prop := fun e k => knd.is k e.2 = true
/-- at a stands a set of the keys ks, in the order of its entries -/
def SetW (h : Heap) (a : Addr) (ks : List κ) : Prop :=
  ∃ o es ep t, h.get? a = some o ∧ o.ExactSet ∧ o.data = .set es ep t ∧ ElemsOf knd es.toList ∧ Paired (IsK knd) es.toList ks ∧ ks.Nodup ∧ es.size < scanBound ∧ t.fits es.size = true ∧ Ris t.place.toList ∧ (w.params.followText "set-order" = true ∨ t.led = true)
abbrev bare (w : World) : Obj := { cls := .type "set", dict := none, data := .set #[] 0 (.fresh 0 0 (!w.params.followText "set-order")) }
variable {knd}
theorem SetW.keep {h h' : Heap} {a : Addr} {ks : List κ} (S : SetW knd h a ks) (k : ∀ o, h.get? a = some o → h'.get? a = some o) : SetW knd h' a ks := by
  obtain ⟨o, es, ep, t, h1, r⟩ := S
  exact ⟨o, es, ep, t, k o h1, r⟩
theorem SetW.fresh {h : Heap} {a : Addr} (e : h.get? a = some (bare w)) : SetW knd h a [] := by
  refine ⟨_, #[], 0, _, e, ⟨rfl, rfl, rfl⟩, rfl, (fun x hx => by simp at hx), .nil, List.nodup_nil, by decide, rfl, List.Pairwise.nil, ?_⟩
  show _ ∨ (!w.params.followText "set-order") = true
  cases w.params.followText "set-order" with
  | true => exact Or.inl rfl
  | false => exact Or.inr rfl
variable {A : Around} {E : Value → Shared → Prop} {s : Shared} {a : Addr} {ks : List κ}
theorem put_there {h : Heap} {o : Obj} {es es' : Array (Int × Value)} {ep : Nat} {t t' : SetTable} (e : h.get? a = some o) (d : o.data = .set es ep t) :
    (h.update a (Obj.putSet es' t')).get? a = some { o with data := .set es' (ep + 1) t' } := by
  have q := Heap.get?_update_self (Obj.putSet es' t') e (by rw [putSet_of es' t' d]; rfl)
  rwa [putSet_of es' t' d] at q
/-- one more key -/
theorem SetW.add {k : κ} {x : Value} {Q : Bool → Shared → Prop} (S : SetW knd s.heap a ks) (kx : knd.is k x = true) (sx : x.scannable = true) (room : ks.length + 1 < scanBound)
    (done : ∀ h' ks', Heap.SameBut a s.heap h' → SetW knd h' a ks' → (k ∈ ks → ks' = ks) → (k ∉ ks → ks'.Perm (k :: ks)) → Q (!decide (k ∈ ks)) { s with heap := h' }) :
    wpAny (model P w) A (setAddHashed a x (knd.hash k)) Q E s := by
  obtain ⟨o, es, ep, t, ho, ex, hd, el, pr, nd, sb, ft, rs, ld⟩ := S
  unfold setAddHashed setAddHashedIn
  apply wpAny_holding
  apply wpAny_bind
  apply wpAny_setState_of ho hd ft
  dsimp only
  rw [byScan_of sx sb el]
  simp only [↓reduceIte]
  unfold setAddByScan
  refine wpAny_bind (wpAny_bind (wpAny_rule (wpAny_bind (wpAny_setScan_of kx ho hd ft el ?_))))
  have sz : es.size = ks.length := by rw [← Array.length_toList]; exact paired_len pr
  cases hf : List.findIdx? (fun e => knd.is k e.2) es.toList
  case none =>
    dsimp only
    have out : k ∉ ks := by
      intro z
      obtain ⟨e, he, r⟩ := paired_right pr k z
      have c := List.findIdx?_eq_none_iff.mp hf e he
      have r' : knd.is k e.2 = true := r
      rw [r'] at c
      cases c
    have pm := layNew_perm t es (knd.hash k) x
    have f1 := layNew_fits t es (knd.hash k) x
    have r1 := layNew_ris t es (knd.hash k) x rs
    have l1 := layNew_led t es (knd.hash k) x
    generalize layNew t es (knd.hash k) x = Z at pm f1 r1 l1 ⊢
    obtain ⟨es1, t1, dummy, gave⟩ := Z
    dsimp only at pm f1 r1 l1 ⊢
    rw [Array.toList_push] at pm
    have pc : es1.toList.Perm ((knd.hash k, x) :: es.toList) := pm.trans (List.perm_append_singleton _ _)
    obtain ⟨k1, pr1, pk1⟩ := paired_perm (R := IsK knd) pc (.cons kx pr)
    have nd1 : k1.Nodup := pk1.nodup_iff.mpr (List.nodup_cons.mpr ⟨out, nd⟩)
    have el1 : ElemsOf knd es1.toList := by
      intro e he
      rcases List.mem_cons.mp (pc.mem_iff.mp he) with q | q
      · rw [q]; exact ⟨⟨k, kx, rfl⟩, sx⟩
      · exact el e q
    have sz1 : es1.size = ks.length + 1 := by
      rw [← Array.length_toList, pc.length_eq, List.length_cons, Array.length_toList, sz]
    have sb1 : es1.size < scanBound := by rw [sz1]; exact room
    have ld1 : w.params.followText "set-order" = true ∨ t1.led = true := ld.imp id fun z => l1.trans z
    have quiet : ∀ (b : Bool) {s₁ : Shared} {Q' : Unit → Shared → Prop}, Q' () s₁ → wpAny (model P w) A (match b with | true => rule "set.scan.the-table-gave-way" | false => pure ()) Q' E s₁ := by
      intro b s₁ Q' q
      cases b with
      | true => exact wpAny_rule q
      | false => exact wpAny_pure q
    have fin : ∀ h' ks', Heap.SameBut a s.heap h' → SetW knd h' a ks' → ks'.Perm (k :: ks) → Q true { s with heap := h' } := by
      intro h' ks' sm S' p'
      have q := done h' ks' sm S' (fun z => absurd z out) (fun _ => p')
      rwa [decide_eq_false out] at q
    -- what stands behind the new entry is laid: the table is stored, and perhaps laid anew
    have tail : ∀ (t2 : SetTable), t2.fits es1.size = true → Ris t2.place.toList → (w.params.followText "set-order" = true ∨ t2.led = true) → ∀ {R : Option Bool → Shared → Prop},
        (∀ h' ks', Heap.SameBut a s.heap h' → SetW knd h' a ks' → ks'.Perm (k :: ks) → R (some true) { s with heap := h' }) → ∀ (g : Bool → Sem Unit), (∀ (b : Bool) (s₁ : Shared) (Q' : Unit → Shared → Prop), Q' () s₁ → wpAny (model P w) A (g b) Q' E s₁) →
        wpAny (model P w) A (do
          storeSet a es1 t2
          if (!dummy && t2.tooFull) = true then do
              g (relayAll t2 es1 (SetTable.grown es1.size)).2.2
              storeSet a (relayAll t2 es1 (SetTable.grown es1.size)).1 (relayAll t2 es1 (SetTable.grown es1.size)).2.1
              pure (some true)
            else pure (some true)) R E s := by
      intro t2 f2 r2 l2 R hR g hg
      refine wpAny_bind (wpAny_storeSet_of ho hd ?_ (fits_of_scanBound sb1))
      have there := put_there (es' := es1) (t' := t2) ho hd
      have sm1 := Heap.SameBut.update s.heap a (Obj.putSet es1 t2)
      split
      · have q1 := relayAll_perm t2 es1 (SetTable.grown es1.size)
        have q2 := relayAll_fits t2 es1 (SetTable.grown es1.size)
        have q3 := relayAll_ris t2 es1 (SetTable.grown es1.size)
        have q4 := relayAll_led t2 es1 (SetTable.grown es1.size)
        generalize relayAll t2 es1 (SetTable.grown es1.size) = Z at q1 q2 q3 q4 ⊢
        obtain ⟨es2, t3, gave3⟩ := Z
        dsimp only at q1 q2 q3 q4 ⊢
        obtain ⟨k2, pr2, pk2⟩ := paired_perm q1 pr1
        have sz2 : es2.size = es1.size := by rw [← Array.length_toList, q1.length_eq, Array.length_toList]
        refine wpAny_bind (hg _ _ _ (wpAny_bind (wpAny_storeSet_of there rfl ?_ (fits_of_scanBound (by rw [sz2]; exact sb1)))))
        have there2 := put_there (es' := es2) (t' := t3) there rfl
        refine wpAny_pure (hR _ k2 (sm1.trans (Heap.SameBut.update _ a _)) ?_ (pk2.trans pk1))
        exact ⟨_, es2, _, t3, there2, ex, rfl, fun e he => el1 e (q1.mem_iff.mp he), pr2, pk2.nodup_iff.mpr nd1, by rw [sz2]; exact sb1, q2, q3, l2.imp id fun z => q4.trans z⟩
      · exact wpAny_pure (hR _ k1 sm1 ⟨_, es1, _, t2, there, ex, rfl, el1, pr1, nd1, sb1, f2, r2, l2⟩ pk1)
    refine wpAny_bind (quiet _ ?_)
    split
    · refine wpAny_bind ?_
      rw [hashByValue_scannable 8 sx]
      apply wpAny_pure
      refine tail _ ?_ ?_ ?_ (fun h' ks' sm S' p' => by dsimp only; exact wpAny_pure (fin h' ks' sm S' p')) _ (fun b s₁ Q' q => quiet b q)
      · first | (split <;> first | exact f1 | exact SetTable.fits_plain_off f1) | exact f1
      · first | (split <;> exact r1) | exact r1
      · first | (split <;> exact ld1) | exact ld1
    · refine wpAny_bind (wpAny_pure ?_)
      simp only [↓reduceIte]
      exact tail _ f1 r1 ld1 (fun h' ks' sm S' p' => by dsimp only; exact wpAny_pure (fin h' ks' sm S' p')) _ (fun b s₁ Q' q => quiet b q)
  case some j =>
    dsimp only
    obtain ⟨hj, pj, _⟩ := List.findIdx?_eq_some_iff_getElem.mp hf
    obtain ⟨k', m', r'⟩ := paired_left pr _ (List.getElem_mem hj)
    have e : k = k' := knd.inj _ _ _ pj r'
    subst e
    refine wpAny_pure (wpAny_pure ?_)
    have q := done s.heap ks (Heap.SameBut.refl a s.heap) ⟨o, es, ep, t, ho, ex, hd, el, pr, nd, sb, ft, rs, ld⟩ (fun _ => rfl) (fun z => absurd m' z)
    rwa [decide_eq_true m'] at q
end
end Gs
/-! R6 -/
set_option Elab.async false
set_option linter.all false
set_option maxRecDepth 100000
set_option maxHeartbeats 8000000
/-! R6: set(list), set(tuple) of keys of one kind; sorted(set) of texts. -/
namespace Gs
open PySem PySem.Spec PyProof.Rows L2
section
variable {κ : Type} [DecidableEq κ] {P : Program} {w : World} {knd : KeyKind P w κ} {A : Around} {E : Value → Shared → Prop} {s : Shared}
/-- the keys of the first i -/
def Upto (xs : List κ) (i : Nat) (ks : List κ) : Prop := (∀ k, k ∈ ks ↔ k ∈ xs.take i) ∧ ks.length ≤ i
theorem Upto.next {xs : List κ} {i : Nat} {ks ks' : List κ} {k : κ} (u : Upto xs i ks) (e : xs[i]? = some k) (h1 : k ∈ ks → ks' = ks) (h2 : k ∉ ks → ks'.Perm (k :: ks)) : Upto xs (i + 1) ks' := by
  have tk : xs.take (i + 1) = xs.take i ++ [k] := by rw [List.take_add_one, e]; rfl
  unfold Upto
  rw [tk]
  by_cases m : k ∈ ks
  · rw [h1 m]
    refine ⟨fun z => ?_, by have := u.2; omega⟩
    rw [u.1 z, List.mem_append, List.mem_singleton]
    constructor
    · exact Or.inl
    · rintro (q | q)
      · exact q
      · rw [q]; exact (u.1 k).mp m
  · have pm := h2 m
    refine ⟨fun z => ?_, by rw [pm.length_eq, List.length_cons]; have := u.2; omega⟩
    rw [pm.mem_iff, List.mem_cons, u.1 z, List.mem_append, List.mem_singleton]
    exact Or.comm
theorem fill {I : Addr} {fp wr : List Addr} {G : Array GenState → Array GenState → Prop} {n : Nat} {Pv : Nat → Value → Prop} {St : Nat → Shared → Prop} {R : Result → Shared → Prop}
    (W : WalksS P w A.in1 I fp wr G n Pv St) (S : Addr) (off : S ∉ fp) (xs : List κ) (hn : n = xs.length) (room : xs.length + 1 < scanBound) (val : ∀ i v, Pv i v → ∃ k, xs[i]? = some k ∧ knd.is k v = true ∧ v.scannable = true) :
    ∀ (m i : Nat) (s : Shared), n - i = m → i ≤ n → St i s → (∃ ks, SetW knd s.heap S ks ∧ Upto xs i ks) →
      (∀ s' ks, Moved (S :: wr) G s s' → SetW knd s'.heap S ks → Upto xs n ks → R (.ok (.ret .none)) s') →
      codeAny (model P w) A (.builtin "set.update.loop" ⟨[.ref S, .ref I], []⟩) R s := by
  have offw : S ∉ wr := fun h => off (W.sub _ h)
  have sub : ∀ b ∈ wr, b ∈ S :: wr := fun b hb => List.mem_cons_of_mem _ hb
  intro m
  induction m with
  | zero =>
    rintro i s hm hi st ⟨ks, S0, u0⟩ end0
    have e : i = n := by omega
    subst e
    apply codeAny_builtin F.entry_set_update_loop
    rw [Around.under_plainId F.plain_set_update_loop _]
    show wpAny _ A.in1 (pyNext (.ref I) >>= _) _ _ s
    apply wpAny_bind
    apply W.done s _ _ st
    intro s' mv
    show wpAny _ A.in1 (ret Value.none) _ _ s'
    exact wpAny_pure (end0 s' ks (mv.mono sub) (S0.keep fun o e => mv.heap S o offw e) u0)
  | succ m ih =>
    rintro i s hm hi st ⟨ks, S0, u0⟩ end0
    have lt : i < n := by omega
    apply codeAny_builtin F.entry_set_update_loop
    rw [Around.under_plainId F.plain_set_update_loop _]
    show wpAny _ A.in1 (pyNext (.ref I) >>= _) _ _ s
    apply wpAny_bind
    apply W.item i s _ _ lt st
    intro v s' pv st' mv
    obtain ⟨k, ek, kv, sv⟩ := val i v pv
    have S1 : SetW knd s'.heap S ks := S0.keep fun o e => mv.heap S o offw e
    show wpAny _ A.in1 (holding [v] (setAdd S v) >>= _) _ _ s'
    refine wpAny_bind (wpAny_holding ?_)
    unfold setAdd
    refine wpAny_holding (wpAny_bind (knd.pyHash (k := k) kv ?_))
    refine SetW.add (s := { s' with toks := s'.toks + 1 }) S1 kv sv (by have := u0.2; omega) fun h' ks' sm S2 q1 q2 => ?_
    refine wpAny_pure ⟨plainId_quiet F.plain_set_update_loop _, ?_⟩
    refine ih (i + 1) _ (by omega) lt (W.frame _ s' _ _ st' (Nat.le_succ _) fun b hb o e => ?_) ⟨ks', S2, u0.next ek q1 q2⟩ fun s2 k2 mv2 S3 u3 => ?_
    · rw [sm.2 b (fun z : b = S => off (by rw [← z]; exact hb))]
      exact e
    · refine end0 s2 k2 (Moved.trans W.gtrans ((mv.mono sub).then_heap (Nat.le_succ _) fun b o hb e => ?_) mv2) S3 u3
      rw [sm.2 b (fun z : b = S => hb (by rw [z]; exact List.mem_cons_self))]
      exact e

abbrev withNew (w : World) (s : Shared) : Heap := s.heap.push (bare w)
/-- set(t), t a tuple -/
theorem set_tup {l : Addr} {items : Array Value} (xs : List κ) {Q : Value → Shared → Prop} (hh : A.handled = none) (hl : s.heap.IsTuple l items)
    (val : ∀ (i : Nat) (v : Value), items[i]? = some v → ∃ k, xs[i]? = some k ∧ knd.is k v = true ∧ v.scannable = true) (sz : items.size = xs.length) (room : xs.length + 1 < scanBound)
    (done : ∀ (h' : Heap) (tk : Nat) (ks : List κ), SetW knd h' s.heap.objs.size ks → Upto xs xs.length ks → (∀ b o, s.heap.get? b = some o → h'.get? b = some o) → Q (.ref s.heap.objs.size) { s with heap := h', toks := tk }) :
    wpAny (model P w) A (call (.type "set") [.ref l]) Q E s := by
  obtain ⟨c, tl, hmro⟩ := F.called_set.mro
  have f1 := F.called_set.made
  have f2 := F.called_set.sub
  apply wpAny_call
  apply codeAny_of_tree
  show wpAny _ _ (callAny (.type "set") _) _ _ _
  refine wpAny_pure ⟨Code.quiet_builtin _ (by decide +kernel), codeAny_builtin F.entry_type_call ?_⟩
  rw [Around.under_plain (weight_type_call_type "set" [.ref l] []) rfl]
  have f3 := F.called_set.notType
  have f4 := F.called_set.canCreate
  have f5 := F.typeCall_set_1 (.ref l)
  repeat (any_goals (first | assumption | wp_step))
  refine codeAny_mono (code_set_led1 (.ref l) (E := E) (Q₁ := fun obj s₁ => obj = .ref s.heap.objs.size ∧ s₁ = { s with heap := withNew w s }) ⟨rfl, rfl⟩) fun r s₁ hr => ?_
  match r, hr with
  | .error e, hr => exact hr
  | .ok .next, hr => exact hr.elim
  | .ok .brk, hr => exact hr.elim
  | .ok .cont, hr => exact hr.elim
  | .ok (.ret obj), hr =>
    obtain ⟨rfl, rfl⟩ := hr
    have there : (withNew w s).get? s.heap.objs.size = some (bare w) := Heap.get?_push_size _ rfl
    have ofT : Shared.TypeIs { s with heap := withNew w s } (.ref s.heap.objs.size) "set" := ⟨_, there, rfl⟩
    have g1 := F.called_set.init.lookup
    have g2 := F.called_set.init.bind (.ref s.heap.objs.size)
    repeat (any_goals (first | assumption | wp_step))
    refine codeAny_mono (codeAny_call_builtin (R := wants (fun r s₂ => r = .none ∧ ∃ h' tk ks, s₂ = { s with heap := h', toks := tk } ∧ SetW knd h' s.heap.objs.size ks ∧ Upto xs xs.length ks ∧
        (∀ b o, s.heap.get? b = some o → h'.get? b = some o)) E) F.called_set.init.plain F.entry_set_init (check_set_init_1 ofT ?_)) fun r₂ s₂ hr₂ => ?_
    · obtain ⟨⟨c1, c2, c3, c4⟩, hol, k1, nl, k2⟩ := hl
      simp only at k1 k2
      subst k1
      subst k2
      have hol' : (withNew w s).get? l = some { cls := .type "tuple", dict := c2, data := .seq items nl, slots := c4 } := Heap.get?_push_of_some _ hol
      have d1 := F.sub_tuple_set
      have d2 := F.sub_tuple_frozenset
      have d3 : (Value.type "tuple" == Value.type "dict") = false := by decide
      have hl1 : (withNew w s).IsTuple l items := ⟨_, hol', rfl, nl, rfl⟩
      unfold Builtin.«set.__init__» noKeywords Builtin.Frozenset.updateFrom
      generalize hPI : pyIter = PI
      wp_walk
      subst hPI
      refine wpAny_pyIter_tuple hl1 (wpAny_bind (wpAny_runValue ?_))
      have lS : l < s.heap.objs.size := Heap.lt_size hol
      have hh3 : A.in1.in1.in1.handled = none := by simp [hh]
      have nI : l ≠ (withNew w s).objs.size := by
        rw [Heap.size_push]
        exact Nat.ne_of_lt (Nat.lt_succ_of_lt lS)
      have off : s.heap.objs.size ∉ [(withNew w s).objs.size, l] := by
        rw [Heap.size_push]
        simp only [List.mem_cons, List.mem_singleton, List.not_mem_nil, or_false, not_or]
        exact ⟨Nat.ne_of_lt (Nat.lt_succ_self _), Nat.ne_of_gt lS⟩
      refine fill ((Walks.tuple hh3 _ l nI items).toS) s.heap.objs.size off xs sz room val (items.size - 0) 0 _ (by omega) (Nat.zero_le _) ⟨⟨_, Heap.get?_push_size _ rfl, rfl, rfl⟩, (hl1.push _)⟩ ?fa ?fb
      case fa =>
        have e0 : ((withNew w s).push { cls := .type "tuple_iterator", data := .fields #[.ref l, .int 0 0] }).get? s.heap.objs.size = some (bare w) := Heap.get?_push_of_some _ there
        exact ⟨[], SetW.fresh e0, fun k => by simp, Nat.zero_le _⟩
      case fb =>
        intro s' ks mv S3 u3
        obtain ⟨h', g', d', tk', os'⟩ := s'
        have q1 : g' = s.gens := mv.gens
        have q2 : d' = s.drawn := mv.drawn
        have q3 : os' = s.os := mv.os
        subst q1
        subst q2
        subst q3
        show wpAny _ _ _ _ _ _
        apply wpAny_pure
        show wpAny _ _ (ret Value.none) _ _ _
        rw [sz] at u3
        refine wpAny_pure ⟨rfl, h', tk', ks, rfl, S3, u3, fun b o e => ?_⟩
        have bl := Heap.lt_size e
        refine mv.heap b o ?_ (Heap.get?_push_of_some _ (Heap.get?_push_of_some _ e))
        rw [Heap.size_push]
        simp only [List.mem_cons, List.mem_singleton, List.not_mem_nil, or_false, not_or]
        exact ⟨Nat.ne_of_lt bl, Nat.ne_of_lt (Nat.lt_succ_of_lt bl)⟩
    · match r₂, hr₂ with
      | .error e, hr₂ => exact hr₂
      | .ok .next, hr₂ => exact hr₂.elim
      | .ok .brk, hr₂ => exact hr₂.elim
      | .ok .cont, hr₂ => exact hr₂.elim
      | .ok (.ret r), hr₂ =>
        obtain ⟨rfl, h', tk, ks, rfl, S3, u3, k3⟩ := hr₂
        repeat (any_goals (first | assumption | wp_step))
        exact done _ _ _ S3 u3 k3
end
end Gs
/-! R7 -/
set_option Elab.async false
set_option linter.all false
set_option maxRecDepth 100000
set_option maxHeartbeats 8000000
namespace Gs
open PySem PySem.Spec PyProof.Rows L2
section
variable {P : Program} {w : World} {A : Around} {E : Value → Shared → Prop} {s : Shared}
abbrev tk (P : Program) (w : World) : PySem.KeyKind P w Str := PySem.strKind P w
theorem strs_paired : ∀ {vs : List Value} {ks : List Str}, Paired (fun v k => ∃ t, v = Value.str k t) vs ks → StrsAre vs ks
  | _, _, .nil => .nil
  | _, _, .cons ⟨t, e⟩ r => by
    subst e
    exact .cons _ t (strs_paired r)
theorem vals_paired : ∀ {es : List (Int × Value)} {ks : List Str}, Paired (IsK (tk P w)) es ks → Paired (fun v k => ∃ t, v = Value.str k t) (es.map (·.2)) ks
  | _, _, .nil => .nil
  | _, _, .cons r q => .cons (Value.isStrOf_shape r) (vals_paired q)
/-- sorted(set of texts), fewer than 64 -/
theorem sorted_txt {a : Addr} {ks : List Str} {Q : Value → Shared → Prop} (S : SetW (tk P w) s.heap a ks) (hh : A.handled = none) (few : ks.length < 64)
    (done : ∀ s' p (out : Array Value) (c : Nat) (ss : List Str), (∀ b o, s.heap.get? b = some o → s'.heap.get? b = some o) → s'.gens = s.gens → s'.os = s.os → s.heap.objs.size ≤ p →
      s'.heap.get? p = some (seqObj "list" out c) → StrsAre out.toList ss → ss.Perm ks → sortedS ss = true → Q (.ref p) s') :
    wpAny (model P w) A (call (.builtin "sorted") [.ref a]) Q E s := by
  obtain ⟨o, es, ep, t, ho, ex, hd, el, pr, nd, sb, ft, rs, ld⟩ := S
  apply Calls.call_function_entry kind_sorted plain_sorted entry_sorted (args_sorted1 _)
  unfold Builtin.«sorted»
  refine wpAny_bind (m := checkCount "sorted" 1 1 _) (wpAny_pure (wpAny_bind ?_))
  refine collect_set (A := A.in1) hh ⟨o, ho, ex.1, hd⟩ ft sb rs ld fun s1 vs k1 hz g1 o1 pm => ?_
  obtain ⟨ss, p1, p2⟩ := paired_perm pm (vals_paired pr)
  have sv : StrsAre vs ss := strs_paired p1
  have len1 : vs.length = ks.length := by rw [paired_len p1, p2.length_eq]
  refine wpAny_bind (wpAny_newList ?_ (by rw [len1, sizeLine_eq]; omega))
  have there : (s1.heap.push (seqObj "list" vs.toArray 0)).get? s1.heap.objs.size = some (seqObj "list" vs.toArray 0) := Heap.get?_push_size _ rfl
  refine wpAny_bind (wpAny_holding (wpAny_call_entry slot_list_sort ⟨_, there, rfl⟩ entry_list_sort
    (list_sort_treeK strKind_oneLt there sv.keysOf (fun v₁ v₂ rest e => keyKind_strs (by rw [← e]; exact sv)) (by rw [len1]; exact few) fun st' hp hs => ?_) (args_list_sort _)))
  obtain ⟨ys, q1, q2, q3⟩ := sorted_out_str sv hp hs
  refine ⟨_, rfl, ?_⟩
  obtain ⟨c, hc⟩ := sortedHeap_at (vs := vs) (out := (arrOf st').map (·.2)) there
  refine wpAny_pure ⟨_, rfl, done _ s1.heap.objs.size _ c ys (fun b u e => ?_) g1 o1 hz hc q1 (q2.trans p2) q3⟩
  have k := k1 b u e
  have lt := Heap.lt_size k
  show (sortedHeap (s1.heap.push (seqObj "list" vs.toArray 0)) s1.heap.objs.size vs _).get? b = some u
  rw [sortedHeap_old (Nat.ne_of_lt lt) (by rw [size_push']; exact Nat.lt_succ_of_lt lt)]
  exact Heap.get?_push_of_some _ k
end
end Gs
/-! R8 -/
set_option Elab.async false
set_option linter.all false
set_option maxRecDepth 100000
set_option maxHeartbeats 8000000
namespace Gs
open PySem PySem.Spec PyProof.Rows L2
def SetS (P : Program) (w : World) (q : Addr) (ks : List Str) : HO := .ext fun h => SetW (tk P w) h q ks
theorem SetS.ok {P : Program} {w : World} {H : Hp} {h : Heap} {q : Addr} {ks : List Str} (S : SetW (tk P w) h q ks) : ObjOk P w H h q (SetS P w q ks) := by
  refine ⟨S, ?_, fun h1 h2 S1 k => S1.keep k⟩
  obtain ⟨o, es, ep, t, e, _⟩ := S
  exact ⟨o, e⟩
theorem SetW.nodup {κ : Type} [DecidableEq κ] {P : Program} {w : World} {knd : KeyKind P w κ} {h : Heap} {a : Addr} {ks : List κ} (S : SetW knd h a ks) : ks.Nodup := by
  obtain ⟨o, es, ep, t, _, _, _, _, _, nd, _⟩ := S
  exact nd
def rSetT (K : PySem.W.Frag) (P : Program) (w : World) : List V → Hp → VK → Prop := fun xs H Q => ∃ (p : Addr) (zs : List Str), xs = [.ref p] ∧ SqT K H p (zs.map V.str) ∧ zs.length ≤ 1000 ∧
  ∀ q ks, H q = none → ks.Nodup → (∀ k, k ∈ ks ↔ k ∈ zs) → ks.length ≤ zs.length → Q (.ref q) (upd H q (SetS P w q ks))
def rSortedTx (P : Program) (w : World) : List V → Hp → VK → Prop := fun xs H Q => ∃ (a : Addr) (ks : List Str), xs = [.ref a] ∧ H a = some (SetS P w a ks) ∧ ks.length < 64 ∧
  ∀ p ss, H p = none → ss.Perm ks → sortedS ss = true → Q (.ref p) (upd H p (.lst (ss.map V.str)))
theorem strs_at : ∀ {zs : List Str} {us : List Value}, Vals (zs.map V.str) us → ∀ (i : Nat) (v : Value), us[i]? = some v → ∃ z t, zs[i]? = some z ∧ v = .str z t
  | [], _, .nil, i, v, h => by simp at h
  | z :: zs, _, .cons r t, 0, v, h => by
    obtain ⟨u, e⟩ := r
    have : _ = v := Option.some.inj h
    subst this
    exact ⟨z, u, rfl, e⟩
  | z :: zs, _, .cons r t, i + 1, v, h => strs_at t i v h
section
variable {X : Cx} (K : PySem.W.Frag) (P : Program) (w : World)
theorem call_setT (hc : X.calm = true) (h : X.K = K := by rfl) (hP : X.prog = P := by rfl) (hw : X.w = w := by rfl) : CallR X (.type "set") (rSetT K P w) := by
  subst h
  subst hP
  subst hw
  intro pins s σ H xs us Q I r q
  obtain ⟨p, zs, rfl, hq, few, q⟩ := q
  obtain ⟨u, rfl, rx⟩ := vals1 r
  have e : u = Value.ref p := rx
  subst e
  obtain ⟨its, rv, tp, _⟩ := I.tuple hq
  have sz : its.length = zs.length := by
    have := rv.length
    rw [List.length_map] at this
    exact this.symm
  refine set_tup (knd := tk X.prog X.w) zs (I.ok.hd hc) tp (fun i v hv => ?_) (by simp only [List.size_toArray]; exact sz) (Nat.lt_of_le_of_lt (show zs.length + 1 ≤ 1001 by omega) (by decide)) fun h' t ks S u k => ?_
  · obtain ⟨z, t, e1, rfl⟩ := strs_at rv i v (by simpa using hv)
    exact ⟨z, e1, strKind_is _ _ _ _, rfl⟩
  · refine ⟨.ref s.heap.objs.size, upd H s.heap.objs.size (SetS X.prog X.w s.heap.objs.size ks), I.laid (t' := t) k (Nat.le_refl _) (SetS.ok S), rfl, ?_⟩
    refine q _ ks (I.hok.fresh (Nat.le_refl _)) S.nodup (fun z => ?_) u.2
    have := u.1 z
    rwa [List.take_length] at this
theorem call_sortedTx (hc : X.calm = true) (hP : X.prog = P := by rfl) (hw : X.w = w := by rfl) : CallR X (.builtin "sorted") (rSortedTx P w) := by
  subst hP
  subst hw
  intro pins s σ H xs us Q I r q
  obtain ⟨a, ks, rfl, ha, few, q⟩ := q
  obtain ⟨u, rfl, rx⟩ := vals1 r
  have e : u = Value.ref a := rx
  subst e
  have S : SetW (tk X.prog X.w) s.heap a ks := (show ObjOk X.prog X.w H s.heap a (SetS X.prog X.w a ks) from I.hok a _ ha).1
  refine sorted_txt S (I.ok.hd hc) few fun s' p out c ss k g o hp hg hS pm so => ?_
  have free : H p = none := I.hok.fresh hp
  have len1 : (ss.map V.str).length ≤ sizeLine := by
    rw [List.length_map, pm.length_eq, sizeLine_eq]
    omega
  have there : s'.heap.get? p = some { cls := .type "list", dict := none, data := .seq out.toList.toArray c, slots := #[] } := by
    rw [Array.toArray_toList]
    exact hg
  have J : Inv X pins σ (upd H p (.lst (ss.map V.str))) { s with heap := s'.heap, gens := s'.gens, drawn := s'.drawn, toks := s'.toks } :=
    I.call (ch := []) (Un.laid k hp free) (I.hok.laid k hp ⟨len1, out.toList, c, vals_of_strs hS, there⟩) (by rw [g]; exact I.bare) (fun _ z => nomatch z)
  have same : s' = { s with heap := s'.heap, gens := s'.gens, drawn := s'.drawn, toks := s'.toks } := by
    cases s'
    cases s
    cases o
    rfl
  rw [same]
  exact ⟨.ref p, _, J, rfl, q p ss free pm so⟩
end
end Gs
/-! R9 -/
set_option Elab.async false
set_option linter.all false
set_option maxRecDepth 100000
set_option maxHeartbeats 4000000
/-! R9: texts in order. -/
namespace Gs
open PySem PySem.Spec PyProof.Rows L2
theorem lc_irrefl : ∀ a : List Nat, ltCps a a = false
  | [] => rfl
  | x :: a => by
    show (decide (x < x) || (x == x && ltCps a a)) = false
    rw [lc_irrefl a]
    simp
theorem lc_trans : ∀ a b c : List Nat, ltCps a b = true → ltCps b c = true → ltCps a c = true
  | [], [], _, h, _ => by cases h
  | [], _ :: _, [], _, h => by cases h
  | [], _ :: _, _ :: _, _, _ => rfl
  | _ :: _, [], _, h, _ => by cases h
  | _ :: _, _ :: _, [], _, h => by cases h
  | x :: a, y :: b, z :: c, h1, h2 => by
    have h1 : (decide (x < y) || (x == y && ltCps a b)) = true := h1
    have h2 : (decide (y < z) || (y == z && ltCps b c)) = true := h2
    show (decide (x < z) || (x == z && ltCps a c)) = true
    simp only [Bool.or_eq_true, decide_eq_true_eq, Bool.and_eq_true, beq_iff_eq] at h1 h2 ⊢
    rcases h1 with h1 | ⟨h1, g1⟩ <;> rcases h2 with h2 | ⟨h2, g2⟩
    · exact .inl (by omega)
    · exact .inl (by omega)
    · exact .inl (by omega)
    · exact .inr ⟨by omega, lc_trans a b c g1 g2⟩
theorem lc_tri : ∀ a b : List Nat, ltCps a b = false → ltCps b a = false → a = b
  | [], [], _, _ => rfl
  | [], _ :: _, h, _ => by cases h
  | _ :: _, [], _, h => by cases h
  | x :: a, y :: b, h1, h2 => by
    have h1 : (decide (x < y) || (x == y && ltCps a b)) = false := h1
    have h2 : (decide (y < x) || (y == x && ltCps b a)) = false := h2
    simp only [Bool.or_eq_false_iff, decide_eq_false_iff_not, Bool.and_eq_false_iff, beq_eq_false_iff_ne] at h1 h2
    have e : x = y := by omega
    subst e
    have g1 : ltCps a b = false := h1.2.resolve_left (fun z => z rfl)
    have g2 : ltCps b a = false := h2.2.resolve_left (fun z => z rfl)
    rw [lc_tri a b g1 g2]
abbrev lS (a b : Str) : Bool := ltCps a.cps.toList b.cps.toList
theorem lS_tri {a b : Str} (h1 : lS a b = false) (h2 : lS b a = false) : a = b := by
  have e := lc_tri _ _ h1 h2
  cases a
  cases b
  congr 1
  exact Array.toList_inj.mp e
/-- strictly ascending -/
def up : List Str → Bool
  | x :: y :: r => lS x y && up (y :: r)
  | _ => true
theorem up_tail {x : Str} {l : List Str} (h : up (x :: l) = true) : up l = true := by
  cases l with
  | nil => rfl
  | cons y r => exact (Bool.and_eq_true_iff.mp h).2
theorem up_head : ∀ (l : List Str) (x : Str), up (x :: l) = true → ∀ y ∈ l, lS x y = true
  | [], _, _, y, h => by cases h
  | z :: l, x, h, y, m => by
    have h' := Bool.and_eq_true_iff.mp h
    rcases List.mem_cons.mp m with e | e
    · rw [e]; exact h'.1
    · exact lc_trans _ _ _ h'.1 (up_head l z h'.2 y e)
theorem up_nodup : ∀ l : List Str, up l = true → l.Nodup
  | [], _ => List.nodup_nil
  | x :: l, h => by
    refine List.nodup_cons.mpr ⟨fun m => ?_, up_nodup l (up_tail h)⟩
    have := up_head l x h x m
    rw [show lS x x = false from lc_irrefl _] at this
    cases this
theorem up_eq : ∀ (l m : List Str), up l = true → up m = true → (∀ k, k ∈ l ↔ k ∈ m) → l = m
  | [], [], _, _, _ => rfl
  | [], y :: m, _, _, h => by have := (h y).mpr List.mem_cons_self; cases this
  | x :: l, [], _, _, h => by have := (h x).mp List.mem_cons_self; cases this
  | x :: l, y :: m, h1, h2, h => by
    have e : x = y := by
      rcases List.mem_cons.mp ((h x).mp List.mem_cons_self) with e | e
      · exact e
      · rcases List.mem_cons.mp ((h y).mpr List.mem_cons_self) with e' | e'
        · exact e'.symm
        · have a := up_head m y h2 x e
          have b := up_head l x h1 y e'
          have c := lc_trans _ _ _ a b
          rw [lc_irrefl] at c
          cases c
    subst e
    congr 1
    refine up_eq l m (up_tail h1) (up_tail h2) fun k => ?_
    have nl := (List.nodup_cons.mp (up_nodup _ h1)).1
    have nm := (List.nodup_cons.mp (up_nodup _ h2)).1
    constructor
    · intro q
      rcases List.mem_cons.mp ((h k).mp (List.mem_cons_of_mem _ q)) with e | e
      · exact absurd (e ▸ q) nl
      · exact e
    · intro q
      rcases List.mem_cons.mp ((h k).mpr (List.mem_cons_of_mem _ q)) with e | e
      · exact absurd (e ▸ q) nm
      · exact e
theorem up_sorted : ∀ l : List Str, sortedS l = true → l.Nodup → up l = true
  | [], _, _ => rfl
  | [_], _, _ => rfl
  | x :: y :: r, h, nd => by
    have h' : (!ltCps y.cps.toList x.cps.toList && risingS y r) = true := h
    have h2 := Bool.and_eq_true_iff.mp h'
    obtain ⟨n1, n2⟩ := List.nodup_cons.mp nd
    have ne : x ≠ y := fun e => n1 (by rw [e]; exact List.mem_cons_self)
    have lt : lS x y = true := by
      cases q : lS x y with
      | true => rfl
      | false => exact absurd (lS_tri q (by simpa using h2.1)) ne
    show (lS x y && up (y :: r)) = true
    rw [lt, up_sorted (y :: r) h2.2 n2]
    rfl
/-- a list is the sorted set of its members exactly if it is strictly ascending -/
theorem up_iff {l ss : List Str} (so : sortedS ss = true) (nd : ss.Nodup) (mem : ∀ k, k ∈ ss ↔ k ∈ l) : (l == ss) = up l := by
  have us := up_sorted ss so nd
  cases q : up l with
  | true =>
    rw [up_eq l ss q us fun k => (mem k).symm]
    simp
  | false =>
    refine beq_eq_false_iff_ne.mpr fun e => ?_
    rw [e, us] at q
    cases q
theorem eqv_strs : ∀ l m : List Str, PyData.eqv (.list (l.map .str)) (.list (m.map .str)) = (l == m) := by
  intro l
  show ∀ m : List Str, PyData.eqvAll (l.map .str) (m.map .str) = (l == m)
  induction l with
  | nil => intro m; cases m <;> rfl
  | cons x l ih =>
    intro m
    cases m with
    | nil => rfl
    | cons y m =>
      show ((x == y) && PyData.eqvAll (l.map .str) (m.map .str)) = _
      rw [ih m]
      rfl
end Gs
/-! B00 -/
set_option Elab.async false
set_option linter.all false
set_option maxRecDepth 100000
set_option maxHeartbeats 4000000
namespace W0
open PySem PySem.Spec PyProof.Rows L2 Gd
def topS (i : Nat) : Stmt := PySem.Challenge.pw_eachshare_k00_integers_names_and_sets.main.body.getD i (.Pass ⟨0, 0, 0, 0⟩)
abbrev s_is_integer : Stmt := topS 2
theorem sc_is_integer : FnScope ["value"] ["value"] (defScope s_is_integer) := ⟨rfl, rfl, rfl, by decide +kernel, rfl, by decide +kernel, by decide +kernel⟩
abbrev s_is_name : Stmt := topS 3
theorem sc_is_name : FnScope ["value", "sign"] ["value"] (defScope s_is_name) := ⟨rfl, rfl, rfl, by decide +kernel, rfl, by decide +kernel, by decide +kernel⟩
abbrev s_is_set : Stmt := topS 4
theorem sc_is_set : FnScope ["value", "one", "other"] ["value"] (defScope s_is_set) := ⟨rfl, rfl, rfl, by decide +kernel, rfl, by decide +kernel, by decide +kernel⟩
abbrev s_is_names : Stmt := topS 5
theorem sc_is_names : FnScope ["value", "name"] ["value"] (defScope s_is_names) := ⟨rfl, rfl, rfl, by decide +kernel, rfl, by decide +kernel, by decide +kernel⟩
abbrev s_l_jar : Stmt := topS 7
theorem sc_l_jar : FnScope ["script", "at", "cell", "great", "mixed"] ["script", "at"] (defScope s_l_jar) := ⟨rfl, rfl, rfl, by decide +kernel, rfl, by decide +kernel, by decide +kernel⟩
abbrev s_l_sip : Stmt := topS 8
theorem sc_l_sip : FnScope ["jar", "total", "found", "one", "two"] ["jar", "total"] (defScope s_l_sip) := ⟨rfl, rfl, rfl, by decide +kernel, rfl, by decide +kernel, by decide +kernel⟩
abbrev s_l_which : Stmt := topS 9
theorem sc_l_which : FnScope ["jar", "items"] ["jar", "items"] (defScope s_l_which) := ⟨rfl, rfl, rfl, by decide +kernel, rfl, by decide +kernel, by decide +kernel⟩
abbrev s_l_mixed : Stmt := topS 10
theorem sc_l_mixed : FnScope ["jar", "items", "waits", "turn"] ["jar", "items"] (defScope s_l_mixed) := ⟨rfl, rfl, rfl, by decide +kernel, rfl, by decide +kernel, by decide +kernel⟩
abbrev s_l_letter : Stmt := topS 11
theorem sc_l_letter : FnScope ["jar"] ["jar"] (defScope s_l_letter) := ⟨rfl, rfl, rfl, by decide +kernel, rfl, by decide +kernel, by decide +kernel⟩
abbrev s_l_many_names : Stmt := topS 12
theorem sc_l_many_names : FnScope ["jar", "much", "body", "lot", "found", "spot", "sign", "at"] ["jar", "much"] (defScope s_l_many_names) := ⟨rfl, rfl, rfl, by decide +kernel, rfl, by decide +kernel, by decide +kernel⟩
abbrev s_l_spelled : Stmt := topS 13
theorem sc_l_spelled : FnScope ["value", "sign"] ["value"] (defScope s_l_spelled) := ⟨rfl, rfl, rfl, by decide +kernel, rfl, by decide +kernel, by decide +kernel⟩
abbrev s_l_is_name_row : Stmt := topS 14
theorem sc_l_is_name_row : FnScope ["value", "name"] ["value"] (defScope s_l_is_name_row) := ⟨rfl, rfl, rfl, by decide +kernel, rfl, by decide +kernel, by decide +kernel⟩
abbrev s_l_is_name_set : Stmt := topS 15
theorem sc_l_is_name_set : FnScope ["value"] ["value"] (defScope s_l_is_name_set) := ⟨rfl, rfl, rfl, by decide +kernel, rfl, by decide +kernel, by decide +kernel⟩
abbrev s_l_is_short : Stmt := topS 16
theorem sc_l_is_short : FnScope ["value"] ["value"] (defScope s_l_is_short) := ⟨rfl, rfl, rfl, by decide +kernel, rfl, by decide +kernel, by decide +kernel⟩
abbrev s_l_numbers : Stmt := topS 17
theorem sc_l_numbers : FnScope ["jar", "cell", "great", "near"] ["jar", "cell"] (defScope s_l_numbers) := ⟨rfl, rfl, rfl, by decide +kernel, rfl, by decide +kernel, by decide +kernel⟩
abbrev s_l_texts : Stmt := topS 18
theorem sc_l_texts : FnScope ["jar", "found", "turn", "text", "spot", "odd", "at"] ["jar"] (defScope s_l_texts) := ⟨rfl, rfl, rfl, by decide +kernel, rfl, by decide +kernel, by decide +kernel⟩
abbrev s_l_tuples : Stmt := topS 19
theorem sc_l_tuples : FnScope ["jar", "one", "two", "last", "found", "odd"] ["jar"] (defScope s_l_tuples) := ⟨rfl, rfl, rfl, by decide +kernel, rfl, by decide +kernel, by decide +kernel⟩
abbrev s_l_cell_right : Stmt := topS 20
theorem sc_l_cell_right : FnScope ["script", "at", "jar", "cell", "values", "turn", "value", "found", "due"] ["script", "at"] (defScope s_l_cell_right) := ⟨rfl, rfl, rfl, by decide +kernel, rfl, by decide +kernel, by decide +kernel⟩
abbrev s_law : Stmt := topS 21
theorem sc_law : FnScope ["script", "at"] ["script"] (defScope s_law) := ⟨rfl, rfl, rfl, by decide +kernel, rfl, by decide +kernel, by decide +kernel⟩
structure Tx (K : PySem.W.Frag) (mg : Str → Option Value) where
  a_is_integer : Addr
  d_is_integer : FuncData
  F_is_integer : Fun K "is_integer" "is_integer" s_is_integer a_is_integer d_is_integer
  b_is_integer : Binds K d_is_integer ["value"] []
  g_is_integer : mg "is_integer" = some (.ref a_is_integer)
  a_is_name : Addr
  d_is_name : FuncData
  F_is_name : Fun K "is_name" "is_name" s_is_name a_is_name d_is_name
  b_is_name : Binds K d_is_name ["value"] []
  g_is_name : mg "is_name" = some (.ref a_is_name)
  a_is_set : Addr
  d_is_set : FuncData
  F_is_set : Fun K "is_set" "is_set" s_is_set a_is_set d_is_set
  b_is_set : Binds K d_is_set ["value"] []
  g_is_set : mg "is_set" = some (.ref a_is_set)
  a_is_names : Addr
  d_is_names : FuncData
  F_is_names : Fun K "is_names" "is_names" s_is_names a_is_names d_is_names
  b_is_names : Binds K d_is_names ["value"] []
  g_is_names : mg "is_names" = some (.ref a_is_names)
  a_l_jar : Addr
  d_l_jar : FuncData
  F_l_jar : Fun K "_law_jar" "_law_jar" s_l_jar a_l_jar d_l_jar
  b_l_jar : Binds K d_l_jar ["script", "at"] []
  g_l_jar : mg "_law_jar" = some (.ref a_l_jar)
  a_l_sip : Addr
  d_l_sip : FuncData
  F_l_sip : Fun K "_law_sip" "_law_sip" s_l_sip a_l_sip d_l_sip
  b_l_sip : Binds K d_l_sip ["jar", "total"] []
  g_l_sip : mg "_law_sip" = some (.ref a_l_sip)
  a_l_which : Addr
  d_l_which : FuncData
  F_l_which : Fun K "_law_which" "_law_which" s_l_which a_l_which d_l_which
  b_l_which : Binds K d_l_which ["jar", "items"] []
  g_l_which : mg "_law_which" = some (.ref a_l_which)
  a_l_mixed : Addr
  d_l_mixed : FuncData
  F_l_mixed : Fun K "_law_mixed" "_law_mixed" s_l_mixed a_l_mixed d_l_mixed
  b_l_mixed : Binds K d_l_mixed ["jar", "items"] []
  g_l_mixed : mg "_law_mixed" = some (.ref a_l_mixed)
  a_l_letter : Addr
  d_l_letter : FuncData
  F_l_letter : Fun K "_law_letter" "_law_letter" s_l_letter a_l_letter d_l_letter
  b_l_letter : Binds K d_l_letter ["jar"] []
  g_l_letter : mg "_law_letter" = some (.ref a_l_letter)
  a_l_many_names : Addr
  d_l_many_names : FuncData
  F_l_many_names : Fun K "_law_many_names" "_law_many_names" s_l_many_names a_l_many_names d_l_many_names
  b_l_many_names : Binds K d_l_many_names ["jar", "much"] []
  g_l_many_names : mg "_law_many_names" = some (.ref a_l_many_names)
  a_l_spelled : Addr
  d_l_spelled : FuncData
  F_l_spelled : Fun K "_law_spelled" "_law_spelled" s_l_spelled a_l_spelled d_l_spelled
  b_l_spelled : Binds K d_l_spelled ["value"] []
  g_l_spelled : mg "_law_spelled" = some (.ref a_l_spelled)
  a_l_is_name_row : Addr
  d_l_is_name_row : FuncData
  F_l_is_name_row : Fun K "_law_is_name_row" "_law_is_name_row" s_l_is_name_row a_l_is_name_row d_l_is_name_row
  b_l_is_name_row : Binds K d_l_is_name_row ["value"] []
  g_l_is_name_row : mg "_law_is_name_row" = some (.ref a_l_is_name_row)
  a_l_is_name_set : Addr
  d_l_is_name_set : FuncData
  F_l_is_name_set : Fun K "_law_is_name_set" "_law_is_name_set" s_l_is_name_set a_l_is_name_set d_l_is_name_set
  b_l_is_name_set : Binds K d_l_is_name_set ["value"] []
  g_l_is_name_set : mg "_law_is_name_set" = some (.ref a_l_is_name_set)
  a_l_is_short : Addr
  d_l_is_short : FuncData
  F_l_is_short : Fun K "_law_is_short" "_law_is_short" s_l_is_short a_l_is_short d_l_is_short
  b_l_is_short : Binds K d_l_is_short ["value"] []
  g_l_is_short : mg "_law_is_short" = some (.ref a_l_is_short)
  a_l_numbers : Addr
  d_l_numbers : FuncData
  F_l_numbers : Fun K "_law_numbers" "_law_numbers" s_l_numbers a_l_numbers d_l_numbers
  b_l_numbers : Binds K d_l_numbers ["jar", "cell"] []
  g_l_numbers : mg "_law_numbers" = some (.ref a_l_numbers)
  a_l_texts : Addr
  d_l_texts : FuncData
  F_l_texts : Fun K "_law_texts" "_law_texts" s_l_texts a_l_texts d_l_texts
  b_l_texts : Binds K d_l_texts ["jar"] []
  g_l_texts : mg "_law_texts" = some (.ref a_l_texts)
  a_l_tuples : Addr
  d_l_tuples : FuncData
  F_l_tuples : Fun K "_law_tuples" "_law_tuples" s_l_tuples a_l_tuples d_l_tuples
  b_l_tuples : Binds K d_l_tuples ["jar"] []
  g_l_tuples : mg "_law_tuples" = some (.ref a_l_tuples)
  a_l_cell_right : Addr
  d_l_cell_right : FuncData
  F_l_cell_right : Fun K "_law_cell_right" "_law_cell_right" s_l_cell_right a_l_cell_right d_l_cell_right
  b_l_cell_right : Binds K d_l_cell_right ["script", "at"] []
  g_l_cell_right : mg "_law_cell_right" = some (.ref a_l_cell_right)
  a_law : Addr
  d_law : FuncData
  F_law : Fun K "law" "law" s_law a_law d_law
  b_law : Binds K d_law ["script"] []
  g_law : mg "law" = some (.ref a_law)
  n_abs : mg "abs" = none
  n_isinstance : mg "isinstance" = none
  n_bool : mg "bool" = none
  n_int : mg "int" = none
  n_all : mg "all" = none
  n_len : mg "len" = none
  n_str : mg "str" = none
  n_zip : mg "zip" = none
  n_tuple : mg "tuple" = none
  n_max : mg "max" = none
  n_range : mg "range" = none
  n_list : mg "list" = none
  n_sorted : mg "sorted" = none
  n_set : mg "set" = none
  n_repr : mg "repr" = none
  n_min : mg "min" = none
  t_MAX_LETTERS : Tok
  v_MAX_LETTERS : mg "MAX_LETTERS" = some (.int 8 t_MAX_LETTERS)
end W0
/-! D1 -/
set_option Elab.async false
set_option linter.all false
set_option maxRecDepth 100000
set_option maxHeartbeats 4000000
namespace W0
open PySem PySem.Spec PyProof.Rows L2 Gd
local macro_rules | `(tactic| walk_at "sq") => `(tactic| first | assumption | exact Or.inl (Or.inl upd_same) | exact Or.inl (Or.inl (by assumption)))
local macro_rules | `(tactic| walk_at "sq2") => `(tactic| first | exact Or.inl (by walk_at "sq") | exact Or.inr (by walk_at "sq"))
local macro_rules | `(tactic| walk_at "hp") => `(tactic| first | assumption | exact upd_same)
local macro_rules | `(tactic| walk_at "at") => `(tactic| first | rfl | assumption)
local macro_rules | `(tactic| walk_at "len") => `(tactic| first | assumption | decide)
local macro_rules | `(tactic| walk_at "side") => `(tactic| first | assumption | (show (0 : Int) < _; decide) | exact Or.inl ⟨by decide, by decide⟩ | exact ⟨by decide, by decide⟩ | omega)

/-! ### the jar of draws -/
def jarL (a b c : Int) : HO := .lst [.int a, .int b, .int c]
def Jar (H : Hp) (j : Addr) : Prop := ∃ a b c : Int, H j = some (jarL a b c) ∧ 0 ≤ b ∧ b < 2 ^ 61 ∧ 0 ≤ c
/-- all but what stands at j is as it was -/
def Keep (j : Addr) (H H' : Hp) : Prop := ∀ b o, H b = some o → b ≠ j → H' b = some o
theorem Keep.refl (j : Addr) (H : Hp) : Keep j H H := fun _ _ h _ => h
theorem Keep.trans {j : Addr} {H H1 H2 : Hp} (a : Keep j H H1) (b : Keep j H1 H2) : Keep j H H2 := fun x o h n => b x o (a x o h n) n
theorem Keep.upd (j : Addr) (H : Hp) (o : HO) : Keep j H (upd H j o) := fun b u h n => (upd_ne n).trans h
theorem Keep.new {j p : Addr} {H H' : Hp} (k : Keep j H H') (h : H' p = none) (o : HO) : Keep j H (L2.upd H' p o) := fun b u e n => by
  have := k b u e n
  rw [upd_ne (ne_of_none this h)]
  exact this
def spSip : Sp := fun vs H Q _ => ∃ (j : Addr) (n : Int), vs = [.ref j, .int n] ∧ Jar H j ∧ 0 < n ∧ n < 2 ^ 200 ∧ ∀ H' v, Keep j H H' → Jar H' j → 0 ≤ v → v < n → Q (.int v) H'
theorem big_div {n : Int} (h : 0 < n) (h2 : n < 2 ^ 200) (i : Int) : CDivW i n := wide_div h (b := 200) (by omega) (by decide) (by decide)
section
variable {P : Program} {w : World} {K : PySem.W.Frag} {mg : Str → Option Value} {base : Heap}
theorem ok_sip (T : Tx K mg) : FnOk P w K mg base CX0 1 T.a_l_sip T.d_l_sip ["jar", "total"] spSip := by
  refine T.F_l_sip.ok sc_l_sip (fun vs H Q E h => ?_) (fun cdv A outer s H vs Q E hr h => ?_)
  · obtain ⟨j, n, rfl, _⟩ := h
    rfl
  · obtain ⟨j, n, rfl, ⟨a, b, c, hj, hb, hb2, hc⟩, hn, hn2, q⟩ := h
    refine ⟨_, (pss_cons (ps_if (pt_cmpR op_gt (pe_ix (ix_listK K) (pv 0) pe_int (fun _ _ => rfl)) pe_int (nomark _))
      (pss_cons (ps_set (i := 2) sc_l_sip.nd rfl (Or.inl rfl) (pe_op op_mod (pe_callTy call_int1 (by rfl) T.n_int (by decide +kernel) (pa_cons (pe_ix (ix_listK K) (pv 0) pe_int (fun _ _ => rfl)) pa_nil)) (pv 1)))
      (pss_cons (ps_asg (pe_op op_fdivW (pe_ix (ix_listK K) (pv 0) pe_int (fun _ _ => rfl)) (pv 1)) (pg_sub (pv 0) pe_int set_list))
      (pss_one (ps_ret (pv 2)))))
      pss_nil)
      (pss_cons (ps_asg (pe_op op_add (pe_ix (ix_listK K) (pv 0) pe_int (fun _ _ => rfl)) pe_int) (pg_sub (pv 0) pe_int set_list))
      (pss_cons (ps_set (i := 3) sc_l_sip.nd rfl (Or.inl rfl) (pe_op op_mod (pe_callTy call_int1 (by rfl) T.n_int (by decide +kernel) (pa_cons (pe_op op_add (pe_ix (ix_listK K) (pv 0) pe_int (fun _ _ => rfl)) (pe_op op_mul pe_int (pe_ix (ix_listK K) (pv 0) pe_int (fun _ _ => rfl)))) pa_nil)) pe_int))
      (pss_cons (ps_set (i := 4) sc_l_sip.nd rfl (Or.inl rfl) (pe_op op_add (pe_op op_mul (pe_op op_mod (pe_callTy call_int1 (by rfl) T.n_int (by decide +kernel) (pa_cons (pe_op op_mul (pv 3) (pv 3)) pa_nil)) pe_int) (pv 3)) (pe_op op_mul pe_int (pe_ix (ix_listK K) (pv 0) pe_int (fun _ _ => rfl)))))
      (pss_one (ps_ret (pe_op op_mod (pe_callTy call_int1 (by rfl) T.n_int (by decide +kernel) (pa_cons (pe_op op_fdivW (pe_op op_mod (pe_callTy call_int1 (by rfl) T.n_int (by decide +kernel) (pa_cons (pv 4) pa_nil)) pe_int) pe_int) pa_nil)) (pv 1)))))))), ?_⟩
    have hD := big_div hn hn2
    have hj : H j = some (.lst [.int a, .int b, .int c]) := hj
    refine ⟨_, rfl, _, _, _, _, rfl, rfl, (by walk_at "sq"), (by walk_at "at"), _, _, rfl, rfl, _, rfl, ite2 (fun e => ?_) (fun e => ?_)⟩
    · refine ⟨_, rfl, _, _, _, _, rfl, rfl, (by walk_at "sq"), (by walk_at "at"), .inl ⟨_, rfl, _, rfl, _, _, rfl, rfl, (by walk_at "side"),
        _, rfl, _, _, _, _, rfl, rfl, (by walk_at "sq"), (by walk_at "at"), _, rfl, _, _, rfl, rfl, hD _, _, rfl, _, _, _, _, rfl, rfl, (by walk_at "hp"), rfl, ?_⟩⟩
      refine ⟨_, rfl, ?_⟩
      exact q _ _ (Keep.upd _ _ _) ⟨a / n, b, c, upd_same, hb, hb2, hc⟩ (Int.emod_nonneg _ (by omega)) (Int.emod_lt_of_pos _ hn)
    · refine ⟨_, rfl, _, _, _, _, rfl, rfl, (by walk_at "sq"), (by walk_at "at"), _, _, rfl, rfl, _, rfl, _, _, _, _, rfl, rfl, (by walk_at "hp"), rfl, ?_⟩
      have hj1 : (upd H j (.lst [.int a, .int b, .int (c + 1)])) j = some (.lst [.int a, .int b, .int (c + 1)]) := upd_same
      refine ⟨_, rfl, _, _, _, _, rfl, rfl, .inl (.inl hj1), (by walk_at "at"), _, rfl, _, _, _, _, rfl, rfl, .inl (.inl hj1), (by walk_at "at"), _, _, rfl, rfl, (by walk_at "side"), _, _, rfl, rfl, .inl ⟨_, rfl, _, _, rfl, rfl, (by walk_at "side"), ?_⟩⟩
      have key : ∀ one : Int, 0 ≤ one → one < 2305843009213693951 → CMul one one ∧ CMul (one * one % 2305843009213693921) one := by
        intro one o1 o2
        have t1 : 0 ≤ one * one % 2305843009213693921 := Int.emod_nonneg _ (by decide)
        have t2 : one * one % 2305843009213693921 < 2305843009213693921 := Int.emod_lt_of_pos _ (by decide)
        exact ⟨.inl ⟨by omega, by omega⟩, .inl ⟨by omega, by omega⟩⟩
      obtain ⟨c1, c2⟩ := key ((b + 1000409 * (c + 1)) % 2305843009213693951) (Int.emod_nonneg _ (by decide)) (Int.emod_lt_of_pos _ (by decide))
      refine ⟨_, rfl, _, rfl, _, _, rfl, rfl, c1, .inl ⟨_, rfl, _, _, rfl, rfl, (by walk_at "side"), _, rfl, _, _, rfl, rfl, c2, _, rfl, _, _, _, _, rfl, rfl, .inl (.inl hj1), (by walk_at "at"), _, _, rfl, rfl, (by walk_at "side"), _, _, rfl, rfl, ?_⟩⟩
      refine ⟨_, rfl, .inl ⟨_, rfl, _, _, rfl, rfl, (by walk_at "side"), _, _, rfl, rfl, (by walk_at "side"), .inl ⟨_, rfl, _, rfl, _, _, rfl, rfl, hn, ?_⟩⟩⟩
      exact q _ _ (Keep.upd _ _ _) ⟨a, b, c + 1, upd_same, hb, hb2, by omega⟩ (Int.emod_nonneg _ (by omega)) (Int.emod_lt_of_pos _ hn)
end
/-! D2 -/

theorem atI_in {α : Type} {xs : List α} {v : Int} (h0 : 0 ≤ v) (h1 : v < xs.length) : ∃ x, x ∈ xs ∧ atI xs v = some x ∧ xs[v.toNat]? = some x := by
  have hk : v.toNat < xs.length := by omega
  refine ⟨xs[v.toNat], List.getElem_mem hk, ?_, List.getElem?_eq_getElem hk⟩
  unfold atI ixN
  rw [if_pos h0, if_pos h1]
  exact List.getElem?_eq_getElem hk
theorem seqIx {n : Nat} {v : Int} (h0 : 0 ≤ v) (h1 : v < n) : seqIndex? v n = some v.toNat := by
  have : ixN n v = some v.toNat := by
    unfold ixN
    rw [if_pos h0, if_pos h1]
  exact (ixN_seq this).1
theorem erase_perm {α : Type} : ∀ (l : List α) (k : Nat) (x : α), l[k]? = some x → (x :: l.eraseIdx k).Perm l
  | [], k, x, h => by simp at h
  | y :: l, 0, x, h => by
    have : y = x := Option.some.inj h
    subst this
    exact .refl _
  | y :: l, k + 1, x, h => by
    have h' : l[k]? = some x := h
    exact (List.Perm.swap y x _).trans ((erase_perm l k x h').cons y)
def spWhich : Sp := fun vs H Q _ => ∃ (j l : Addr) (xs : List V), vs = [.ref j, .ref l] ∧ Jar H j ∧ H l = some (.lst xs) ∧ l ≠ j ∧ 0 < xs.length ∧ xs.length ≤ 100000 ∧ ∀ H' v, Keep j H H' → Jar H' j → v ∈ xs → Q v H'
def spLetter : Sp := fun vs H Q _ => ∃ (j : Addr), vs = [.ref j] ∧ Jar H j ∧ ∀ H' c, Keep j H H' → Jar H' j → 97 ≤ c → c ≤ 122 → Q (.str ⟨#[c]⟩) H'
def spMixed : Sp := fun vs H Q _ => ∃ (j : Addr) (z : Str), vs = [.ref j, .str z] ∧ Jar H j ∧ z.length ≤ 1000 ∧ ∀ H' r ys, Keep j H H' → Jar H' j → H r = none → H' r = some (.lst ys) → ys.Perm (signsV z) → Q (.ref r) H'
section
variable {P : Program} {w : World} {K : PySem.W.Frag} {mg : Str → Option Value} {base : Heap}
theorem ok_which (T : Tx K mg) : FnOk P w K mg base CX0 2 T.a_l_which T.d_l_which ["jar", "items"] spWhich := by
  have G_l_sip : FnOk P w K mg base CX0 1 T.a_l_sip T.d_l_sip ["jar", "total"] spSip := ok_sip T
  refine T.F_l_which.ok sc_l_which (fun vs H Q E h => ?_) (fun cdv A outer s H vs Q E hr h => ?_)
  · obtain ⟨j, l, xs, rfl, _⟩ := h
    rfl
  · obtain ⟨j, l, xs, rfl, hj, hl, hne, h0, h1, q⟩ := h
    refine ⟨_, (pss_one (ps_ret (pe_ix (ix_listK K) (pv 1) (pe_call G_l_sip (hr.mono (by decide)) (by rfl) T.g_l_sip T.F_l_sip.kp T.b_l_sip .nil pass0 (pa_cons (pv 0) (pa_cons (pe_callB (call_lenK K) (by rfl) T.n_len (by decide +kernel) (pa_cons (pv 1) pa_nil)) pa_nil))) (fun _ _ => rfl)))), ?_⟩
    refine ⟨_, rfl, _, rfl, _, rfl, _, xs, rfl, .inl (.inl (.inl hl)), j, xs.length, rfl, hj, by omega, by omega, fun H' v k hj' v0 v1 => ?_⟩
    obtain ⟨x, hx, ex, _⟩ := atI_in v0 v1
    exact ⟨_, _, _, _, rfl, rfl, .inl (.inl (k _ _ hl hne)), ex, q _ _ k hj' hx⟩
theorem letters : ("abcdefghijklmnopqrstuvwxyz" : Str).cps.toList = [97, 98, 99, 100, 101, 102, 103, 104, 105, 106, 107, 108, 109, 110, 111, 112, 113, 114, 115, 116, 117, 118, 119, 120, 121, 122] := by decide +kernel
theorem letters_len : ("abcdefghijklmnopqrstuvwxyz" : Str).length = 26 := by decide +kernel
theorem ok_letter (T : Tx K mg) : FnOk P w K mg base CX0 2 T.a_l_letter T.d_l_letter ["jar"] spLetter := by
  have G_l_sip : FnOk P w K mg base CX0 1 T.a_l_sip T.d_l_sip ["jar", "total"] spSip := ok_sip T
  refine T.F_l_letter.ok sc_l_letter (fun vs H Q E h => ?_) (fun cdv A outer s H vs Q E hr h => ?_)
  · obtain ⟨j, rfl, _⟩ := h
    rfl
  · obtain ⟨j, rfl, hj, q⟩ := h
    refine ⟨_, (pss_one (ps_ret (pe_ix ix_str pe_str (pe_call G_l_sip (hr.mono (by decide)) (by rfl) T.g_l_sip T.F_l_sip.kp T.b_l_sip .nil pass0 (pa_cons (pv 0) (pa_cons pe_int pa_nil))) (fun _ _ => rfl)))), ?_⟩
    refine ⟨_, rfl, j, 26, rfl, hj, by decide, by decide, fun H' v k hj' v0 v1 => ?_⟩
    have hv : v < ("abcdefghijklmnopqrstuvwxyz" : Str).cps.toList.length := by
      rw [letters]
      exact v1
    obtain ⟨c, hc, ec, _⟩ := atI_in v0 hv
    have b : 97 ≤ c ∧ c ≤ 122 := by
      rw [letters] at hc
      have : ∀ x ∈ [97, 98, 99, 100, 101, 102, 103, 104, 105, 106, 107, 108, 109, 110, 111, 112, 113, 114, 115, 116, 117, 118, 119, 120, 121, 122], 97 ≤ x ∧ x ≤ 122 := by decide
      exact this c hc
    exact ⟨_, v, c, rfl, rfl, (by rw [letters_len]; decide), ec, q _ _ k hj' b.1 b.2⟩
theorem ok_mixed (T : Tx K mg) : FnOk P w K mg base CX0 2 T.a_l_mixed T.d_l_mixed ["jar", "items"] spMixed := by
  have G_l_sip : FnOk P w K mg base CX0 1 T.a_l_sip T.d_l_sip ["jar", "total"] spSip := ok_sip T
  refine T.F_l_mixed.ok sc_l_mixed (fun vs H Q E h => ?_) (fun cdv A outer s H vs Q E hr h => ?_)
  · obtain ⟨j, z, rfl, _⟩ := h
    rfl
  · obtain ⟨j, z, rfl, hj, hz, q⟩ := h
    refine ⟨_, (pss_cons (ps_set (i := 2) sc_l_mixed.nd rfl (Or.inr rfl) (pe_callTy (call_listS rfl) (by rfl) T.n_list (by decide +kernel) (pa_cons (pv 1) pa_nil)))
      (pss_one (ps_ret (pe_lc (own := [("turn", 3)]) (g := gName 3) rfl sc_l_mixed.nd (pi_range1 (by rfl) T.n_range (pa_cons (pe_callB call_len_str (by rfl) T.n_len (by decide +kernel) (pa_cons (pv 1) pa_nil)) pa_nil)) (blkOk_by (own := [("turn", 3)]) (N := ["jar", "items", "waits", "turn"]) (sc := defScope s_l_mixed) (by decide +kernel)) (fun _ _ _ _ _ => (pg_name (i := 3) sc_l_mixed.nd rfl (Or.inl rfl))) (fun _ _ _ _ _ => pts_nil) (fun _ _ _ _ _ => (pe_bmK K PySem.F.plainAttrs_list PySem.F.slot_list_pop PySem.F.type_list_pop mt_popAt (pv 2) (pa_cons (pe_call G_l_sip (hr.mono (by decide)) (by rfl) T.g_l_sip T.F_l_sip.kp T.b_l_sip .nil pass0 (pa_cons (pv 0) (pa_cons (pe_callB (call_lenK K) (by rfl) T.n_len (by decide +kernel) (pa_cons (pv 2) pa_nil)) pa_nil))) pa_nil))))))), ?_⟩
    have hzl : z.length ≤ sizeLine := Nat.le_trans hz (by decide)
    have jne : ∃ o, H j = some o := let ⟨a, b, c, e, _⟩ := hj; ⟨_, e⟩
    obtain ⟨oj, ej⟩ := jne
    refine ⟨_, rfl, z, rfl, hzl, fun L nL => ?_⟩
    have jL : j ≠ L := ne_of_none ej nL
    refine ⟨_, rfl, z, rfl, hzl, (z.length : Int), rfl, by omega, by omega, fun D nD => ?_⟩
    have len0 : (signsV z).length = z.length := by unfold signsV; rw [List.length_map]; exact Array.length_toList
    have LD : L ≠ D := ne_of_none (H := upd H L (.lst (signsV z))) upd_same nD
    have jD : j ≠ D := ne_of_none (H := upd H L (.lst (signsV z))) (o := oj) ((upd_ne jL).trans ej) nD
    have nD' : H D = none := by
      have := nD
      rw [upd_ne LD.symm] at this
      exact this
    refine lc_range (lo := 0) (n := (z.length : Int).toNat) (fun i H1 => Keep j H H1 ∧ Jar H1 j ∧ ∃ acc ws, H1 D = some (.lst acc) ∧ H1 L = some (.lst ws) ∧ acc.length = i ∧ (acc ++ ws).Perm (signsV z)) ?_ ?_ ?_
    · obtain ⟨a, b, c, e, r⟩ := hj
      refine ⟨((Keep.refl j H).new nL _).new nD _, ⟨a, b, c, ?_, r⟩, [], signsV z, upd_same, ?_, rfl, .refl _⟩
      · rw [upd_ne jD, upd_ne jL]; exact e
      · rw [upd_ne LD]; exact upd_same
    · rintro i H1 hi ⟨k1, j1, acc, ws, hD, hL, la, pm⟩
      have lw : acc.length + ws.length = z.length := by rw [← len0, ← pm.length_eq, List.length_append]
      have wpos : 0 < ws.length := by omega
      refine ⟨rfl, _, rfl, .inl ⟨rfl, _, .inl (.inl hL)⟩, _, rfl, _, rfl, _, _, rfl, .inl (.inl (.inl hL)), j, ws.length, rfl, j1, by omega, by omega, fun H2 v k2 j2 v0 v1 => ?_⟩
      obtain ⟨x, hx, _, ex⟩ := atI_in v0 v1
      have hL2 : H2 L = some (.lst ws) := k2 _ _ hL jL.symm
      have hD2 : H2 D = some (.lst acc) := k2 _ _ hD jD.symm
      refine ⟨L, ws, v, v.toNat, x, rfl, rfl, hL2, by omega, by omega, seqIx v0 v1, ex, acc, (upd_ne LD.symm).trans hD2, ?_, ?_⟩
      · exact Nat.lt_of_lt_of_le (show acc.length < 1000 by omega) (by decide)
      · have kk : Keep j H (upd (upd H2 L (.lst (ws.eraseIdx v.toNat))) D (.lst (acc ++ [x]))) := by
          intro b o e n
          rw [upd_ne (ne_of_none e nD'), upd_ne (ne_of_none e nL)]
          exact (k1.trans k2) b o e n
        obtain ⟨a, b, c, e, r⟩ := j2
        refine ⟨kk, ⟨a, b, c, ?_, r⟩, acc ++ [x], ws.eraseIdx v.toNat, upd_same, ?_, by rw [List.length_append, la]; rfl, ?_⟩
        · rw [upd_ne jD, upd_ne jL]; exact e
        · rw [upd_ne LD]; exact upd_same
        · rw [List.append_assoc]
          refine List.Perm.trans ?_ pm
          refine List.Perm.append_left acc ?_
          exact erase_perm ws v.toNat x ex
    · rintro H1 ⟨k1, j1, acc, ws, hD, hL, la, pm⟩
      have lw : acc.length + ws.length = z.length := by rw [← len0, ← pm.length_eq, List.length_append]
      have : ws = [] := List.eq_nil_of_length_eq_zero (by omega)
      subst this
      rw [List.append_nil] at pm
      exact q _ D acc k1 j1 nD' hD pm
end
/-! D3 -/

def spJar (K : PySem.W.Frag) : Sp := fun vs H Q _ => ∃ (a : Addr) (i : Int) (ns : List Int), vs = [.ref a, .int i] ∧ SqL K H a (ns.map V.int) ∧ 0 ≤ i ∧ i ≤ 1000000 ∧ ∀ H' p, Same H H' → H p = none → Jar H' p → Q (.ref p) H'
theorem pow59 : CPowB 10 59 := ⟨by decide, by decide +kernel⟩
theorem pow59_11 : CPowB ((10 : Int) ^ (59 : Int).toNat) 11 := ⟨by decide, by decide +kernel⟩
theorem pos59_11 : (0 : Int) < ((10 : Int) ^ (59 : Int).toNat) ^ (11 : Int).toNat := by decide +kernel
theorem pow18 : CPowB 10 18 := ⟨by decide, by decide +kernel⟩
theorem ints_at {ns : List Int} {i : Int} (h0 : 0 ≤ i) (h1 : i < (ns.map V.int).length) : ∃ n, atI (ns.map V.int) i = some (.int n) := by
  obtain ⟨x, hx, e, _⟩ := atI_in h0 h1
  obtain ⟨n, _, rfl⟩ := List.mem_map.mp hx
  exact ⟨n, e⟩
section
variable {P : Program} {w : World} {K : PySem.W.Frag} {mg : Str → Option Value} {base : Heap}
theorem ok_jar (T : Tx K mg) : FnOk P w K mg base CX0 1 T.a_l_jar T.d_l_jar ["script", "at"] (spJar K) := by
  refine T.F_l_jar.ok sc_l_jar (fun vs H Q E h => ?_) (fun cdv A outer s H vs Q E hr h => ?_)
  · obtain ⟨a, i, ns, rfl, _⟩ := h
    rfl
  · obtain ⟨a, i, ns, rfl, hS, i0, i1, q⟩ := h
    refine ⟨_, (pss_cons (ps_set (i := 2) sc_l_jar.nd rfl (Or.inl rfl) (pe_ifExp (pt_cmpR op_lt (pv 1) (pe_callB (call_lenK K) (by rfl) T.n_len (by decide +kernel) (pa_cons (pv 0) pa_nil)) (nomark _)) (pe_ix (ix_listK K) (pv 0) (pv 1) (fun _ _ => rfl)) (pe_op op_add (pe_op op_mul pe_int (pv 1)) pe_int)))
      (pss_cons (ps_set (i := 3) sc_l_jar.nd rfl (Or.inl rfl) (pe_op op_mod (pe_callTy call_int1 (by rfl) T.n_int (by decide +kernel) (pa_cons (pe_callB call_abs (by rfl) T.n_abs (by decide +kernel) (pa_cons (pv 2) pa_nil)) pa_nil)) (pe_op op_powB (pe_op op_powB pe_int pe_int) pe_int)))
      (pss_cons (ps_set (i := 4) sc_l_jar.nd rfl (Or.inl rfl) (pe_op op_add (pe_op op_add (pe_op op_add (pe_op op_mul (pe_op op_mod (pe_callTy call_int1 (by rfl) T.n_int (by decide +kernel) (pa_cons (pv 3) pa_nil)) pe_int) pe_int) (pe_op op_mul pe_int (pv 1))) (pe_op op_mul pe_int (pe_callTy call_int1 (by rfl) T.n_int (by decide +kernel) (pa_cons (pe_cmpR op_lt (pv 2) pe_int (nomark _)) pa_nil)))) pe_int))
      (pss_one (ps_ret (pe_lst (pa_cons (pe_callB (call_max2 rfl) (by rfl) T.n_max (by decide +kernel) (pa_cons pe_int (pa_cons (pe_op op_sub (pv 3) (pe_op op_powB pe_int pe_int)) pa_nil))) (pa_cons (pe_op op_mod (pe_callTy call_int1 (by rfl) T.n_int (by decide +kernel) (pa_cons (pv 4) pa_nil)) pe_int) (pa_cons pe_int pa_nil))))))))), ?_⟩
    refine ⟨_, rfl, _, rfl, _, ns.map V.int, rfl, .inl hS, _, _, rfl, rfl, _, rfl, ite2 (fun e => ?_) (fun e => ?_)⟩
    · have e1 : i < (ns.map V.int).length := of_decide_eq_true e
      obtain ⟨cell, hc⟩ := ints_at i0 e1
      refine ⟨_, rfl, _, rfl, _, _, _, _, rfl, rfl, hS, hc, ?_⟩
      refine ⟨_, rfl, cell, rfl, .inl ⟨_, rfl, _, _, rfl, rfl, pow59, _, _, rfl, rfl, pow59_11, _, _, rfl, rfl, pos59_11, ?_⟩⟩
      have g0 : 0 ≤ (if cell < 0 then -cell else cell) % ((10 : Int) ^ (59 : Int).toNat) ^ (11 : Int).toNat := Int.emod_nonneg _ (by have := pos59_11; omega)
      generalize hg : (if cell < 0 then -cell else cell) % ((10 : Int) ^ (59 : Int).toNat) ^ (11 : Int).toNat = great at g0
      have c1 : ∀ x : Int, CMul (x % 2147483323) 94261 := fun x => .inr ⟨by decide, by decide⟩
      refine ⟨_, rfl, .inl ⟨_, rfl, _, _, rfl, rfl, (by walk_at "side"), _, _, rfl, rfl, c1 _, _, rfl, _, _, rfl, rfl, (by walk_at "side"), _, _, rfl, rfl, _, rfl, _, _, rfl, rfl, .inr ⟨_, rfl, _, _, rfl, rfl, (by walk_at "side"), _, _, rfl, rfl, _, _, rfl, rfl, ?_⟩⟩⟩
      refine ⟨_, rfl, _, _, rfl, rfl, pow18, _, _, rfl, rfl, _, _, rfl, _, rfl, .inl ⟨_, rfl, _, _, rfl, rfl, (by walk_at "side"), (by show 3 ≤ sizeLine; decide), fun p np => ?_⟩⟩
      exact q _ p (fun b o e => by rw [upd_ne (ne_of_none e np)]; exact e) np ⟨_, _, _, upd_same, Int.emod_nonneg _ (by decide), Int.lt_trans (Int.emod_lt_of_pos _ (by decide)) (by decide), by decide⟩
    · refine ⟨_, rfl, _, _, rfl, rfl, (by walk_at "side"), _, _, rfl, rfl, ?_⟩
      refine ⟨_, rfl, _, rfl, .inl ⟨_, rfl, _, _, rfl, rfl, pow59, _, _, rfl, rfl, pow59_11, _, _, rfl, rfl, pos59_11, ?_⟩⟩
      have c1 : ∀ x : Int, CMul (x % 2147483323) 94261 := fun x => .inr ⟨by decide, by decide⟩
      refine ⟨_, rfl, .inl ⟨_, rfl, _, _, rfl, rfl, (by walk_at "side"), _, _, rfl, rfl, c1 _, _, rfl, _, _, rfl, rfl, (by walk_at "side"), _, _, rfl, rfl, _, rfl, _, _, rfl, rfl, .inr ⟨_, rfl, _, _, rfl, rfl, (by walk_at "side"), _, _, rfl, rfl, _, _, rfl, rfl, ?_⟩⟩⟩
      refine ⟨_, rfl, _, _, rfl, rfl, pow18, _, _, rfl, rfl, _, _, rfl, _, rfl, .inl ⟨_, rfl, _, _, rfl, rfl, (by walk_at "side"), (by show 3 ≤ sizeLine; decide), fun p np => ?_⟩⟩
      exact q _ p (fun b o e => by rw [upd_ne (ne_of_none e np)]; exact e) np ⟨_, _, _, upd_same, Int.emod_nonneg _ (by decide), Int.lt_trans (Int.emod_lt_of_pos _ (by decide)) (by decide), by decide⟩
end
/-! D4 -/

/-! ### plain values, and what they are -/
def ascS (z : Str) : Prop := ∀ c ∈ z.cps.toList, c < 128
mutual
/-- data that is read off the heap -/
inductive Da (H : Hp) : V → PyData → Prop
  | non : Da H .non .none
  | bl (b : Bool) : Da H (.bl b) (.bool b)
  | int (i : Int) : Da H (.int i) (.int i)
  | str (z : Str) (h : z.length ≤ 10000) (k : ascS z) : Da H (.str z) (.str z)
  | lst {a : Addr} {xs : List V} {ds : List PyData} (h : H a = some (.lst xs)) (x : DaAll H xs ds) : Da H (.ref a) (.list ds)
  | tup {a : Addr} {xs : List V} {ds : List PyData} (h : H a = some (.tup xs)) (l : xs.length ≤ 50) (x : DaAll H xs ds) : Da H (.ref a) (.tuple ds)
inductive DaAll (H : Hp) : List V → List PyData → Prop
  | nil : DaAll H [] []
  | cons {v : V} {vs : List V} {d : PyData} {ds : List PyData} (h : Da H v d) (t : DaAll H vs ds) : DaAll H (v :: vs) (d :: ds)
end
mutual
theorem Da.mono {H H' : Hp} (s : Same H H') {v : V} {d : PyData} : Da H v d → Da H' v d
  | .non => .non
  | .bl b => .bl b
  | .int i => .int i
  | .str z h k => .str z h k
  | .lst h x => .lst (s _ _ h) (DaAll.mono s x)
  | .tup h l x => .tup (s _ _ h) l (DaAll.mono s x)
theorem DaAll.mono {H H' : Hp} (s : Same H H') {vs : List V} {ds : List PyData} : DaAll H vs ds → DaAll H' vs ds
  | .nil => .nil
  | .cons h t => .cons (Da.mono s h) (DaAll.mono s t)
end
mutual
theorem Da.dp {K : PySem.W.Frag} {H : Hp} {v : V} {d : PyData} : Da H v d → Dp K H v d
  | .non => .non
  | .bl b => .bl b
  | .int i => .int i
  | .str z _ _ => .str z
  | .lst h x => .lst (.inl (.inl h)) (DaAll.dp x)
  | .tup h _ x => .tup (.inl (.inl h)) (DaAll.dp x)
theorem DaAll.dp {K : PySem.W.Frag} {H : Hp} {vs : List V} {ds : List PyData} : DaAll H vs ds → DpAll K H vs ds
  | .nil => .nil
  | .cons h t => .cons (Da.dp h) (DaAll.dp t)
end
theorem strOk_asc {z : Str} (h : ascS z) : PyData.strOk z = true := by
  show z.cps.all (fun c => decide (c < 0x110000)) = true
  rw [← Array.all_toList, List.all_eq_true]
  intro c hc
  have := h c hc
  exact decide_eq_true (by omega)
mutual
theorem Da.lay {H : Hp} {v : V} {d : PyData} : Da H v d → d.canLay0 = true
  | .non => by simp only [PyData.canLay0]
  | .bl b => by simp only [PyData.canLay0]
  | .int i => by simp only [PyData.canLay0]
  | .str z _ k => by
    simp only [PyData.canLay0]
    exact strOk_asc k
  | .lst _ x => by
    simp only [PyData.canLay0]
    exact DaAll.lay x
  | .tup _ _ x => by
    simp only [PyData.canLay0]
    exact DaAll.lay x
theorem DaAll.lay {H : Hp} {vs : List V} {ds : List PyData} : DaAll H vs ds → PyData.canLayAll0 ds = true
  | .nil => by simp only [PyData.canLayAll0]
  | .cons h t => by
    simp only [PyData.canLayAll0]
    rw [Da.lay h, DaAll.lay t]
    rfl
end
theorem DaAll.get {H : Hp} {vs : List V} {ds : List PyData} : DaAll H vs ds → ∀ x ∈ vs, ∃ d, Da H x d ∧ d.depth ≤ PyData.depthAll ds
  | .nil => fun x hx => by cases hx
  | .cons (v := v) (d := d) (ds := ds) h t => fun x hx => by
    rcases List.mem_cons.mp hx with e | e
    · subst e
      refine ⟨d, h, ?_⟩
      simp only [PyData.depthAll]
      omega
    · obtain ⟨d', h1, h2⟩ := DaAll.get t x e
      refine ⟨d', h1, ?_⟩
      simp only [PyData.depthAll]
      omega
theorem DaAll.of {H : Hp} {n : Nat} : ∀ (vs : List V), (∀ x ∈ vs, ∃ d, Da H x d ∧ d.depth ≤ n) → ∃ ds, DaAll H vs ds ∧ PyData.depthAll ds ≤ n ∧ (ds.isEmpty = vs.isEmpty)
  | [], _ => ⟨[], .nil, by simp only [PyData.depthAll]; omega, rfl⟩
  | v :: vs, h => by
    obtain ⟨d, h1, h2⟩ := h v List.mem_cons_self
    obtain ⟨ds, h3, h4, _⟩ := DaAll.of vs fun x hx => h x (List.mem_cons_of_mem _ hx)
    refine ⟨d :: ds, .cons h1 h3, ?_, rfl⟩
    simp only [PyData.depthAll]
    omega
theorem DaAll.shaped {H : Hp} {vs : List V} {ds : List PyData} (h : DaAll H vs ds) (l : PyData.depthAll ds ≤ 60) : SeqAt.shaped (.list ds) = true := by
  show (PyData.canLay0 (.list ds) && decide (PyData.depth (.list ds) ≤ 64)) = true
  rw [Bool.and_eq_true]
  refine ⟨by simp only [PyData.canLay0]; exact h.lay, decide_eq_true ?_⟩
  simp only [PyData.depth]
  omega
inductive Pl (H : Hp) : V → Prop
  | non : Pl H .non
  | bl (b : Bool) : Pl H (.bl b)
  | int (i : Int) : Pl H (.int i)
  | str (z : Str) (h : z.length ≤ 10000) (k : ascS z) : Pl H (.str z)
  | lst {a : Addr} {xs : List V} (h : H a = some (.lst xs)) : Pl H (.ref a)
  | dct {a : Addr} {kvs : List (Key × V)} (h : H a = some (.dK kvs)) : Pl H (.ref a)
  | tup {a : Addr} {xs : List V} (h : H a = some (.tup xs)) (hl : xs.length ≤ 50) (hx : ∀ x ∈ xs, ∃ d, Da H x d ∧ d.depth ≤ 10) : Pl H (.ref a)
theorem Pl.mono {H H' : Hp} (s : Same H H') {v : V} (p : Pl H v) : Pl H' v := by
  cases p with
  | non => exact .non
  | bl b => exact .bl b
  | int i => exact .int i
  | str z h k => exact .str z h k
  | lst h => exact .lst (s _ _ h)
  | dct h => exact .dct (s _ _ h)
  | tup h hl hx => exact .tup (s _ _ h) hl fun x m => let ⟨d, h1, h2⟩ := hx x m; ⟨d, h1.mono s, h2⟩
theorem Da.pl {H : Hp} {v : V} {d : PyData} (h : Da H v d) (l : d.depth ≤ 10) : Pl H v := by
  cases h with
  | non => exact .non
  | bl b => exact .bl b
  | int i => exact .int i
  | str z h k => exact .str z h k
  | lst h x => exact .lst h
  | tup h hl x =>
    refine .tup h hl fun y m => ?_
    obtain ⟨d, h1, h2⟩ := x.get y m
    refine ⟨d, h1, ?_⟩
    simp only [PyData.depth] at l
    omega
def tyN (H : Hp) : V → String
  | .non => "NoneType"
  | .bl _ => "bool"
  | .int _ => "int"
  | .str _ => "str"
  | .ref a => match H a with
    | some (.lst _) => "list"
    | some (.dK _) => "dict"
    | _ => "tuple"
  | _ => "float"
theorem Pl.ty {K : PySem.W.Frag} {H : Hp} {v : V} (p : Pl H v) : TyX K H v (.type (tyN H v)) := by
  cases p with
  | non => exact .base .non
  | bl b => exact .base (.bl b)
  | int i => exact .base (.int i)
  | str z h k => exact .base (.str z)
  | lst h =>
    show TyX K H _ (.type (match H _ with | some (.lst _) => "list" | some (.dK _) => "dict" | _ => "tuple"))
    rw [h]
    exact .base (.lst h)
  | dct h =>
    show TyX K H _ (.type (match H _ with | some (.lst _) => "list" | some (.dK _) => "dict" | _ => "tuple"))
    rw [h]
    exact .base (.dK h)
  | tup h hl hx =>
    show TyX K H _ (.type (match H _ with | some (.lst _) => "list" | some (.dK _) => "dict" | _ => "tuple"))
    rw [h]
    exact .base (.tup h)
/-- isinstance by the name of a type -/
def isB (H : Hp) (v : V) (c : String) : Bool := (kitB (tyN H v) c).getD false
theorem kit_all : ∀ T ∈ ["NoneType", "bool", "int", "str", "list", "dict", "tuple"], ∀ c ∈ ["int", "bool", "str", "tuple"], (kitB T c).isSome = true := by decide +kernel
theorem Pl.tyIn {H : Hp} {v : V} (p : Pl H v) : tyN H v ∈ ["NoneType", "bool", "int", "str", "list", "dict", "tuple"] := by
  cases p with
  | non => exact (by decide : "NoneType" ∈ ["NoneType", "bool", "int", "str", "list", "dict", "tuple"])
  | bl b => exact (by decide : "bool" ∈ ["NoneType", "bool", "int", "str", "list", "dict", "tuple"])
  | int i => exact (by decide : "int" ∈ ["NoneType", "bool", "int", "str", "list", "dict", "tuple"])
  | str z h k => exact (by decide : "str" ∈ ["NoneType", "bool", "int", "str", "list", "dict", "tuple"])
  | lst h =>
    show (match H _ with | some (.lst _) => "list" | some (.dK _) => "dict" | _ => "tuple") ∈ _
    rw [h]
    exact (by decide : "list" ∈ ["NoneType", "bool", "int", "str", "list", "dict", "tuple"])
  | dct h =>
    show (match H _ with | some (.lst _) => "list" | some (.dK _) => "dict" | _ => "tuple") ∈ _
    rw [h]
    exact (by decide : "dict" ∈ ["NoneType", "bool", "int", "str", "list", "dict", "tuple"])
  | tup h hl hx =>
    show (match H _ with | some (.lst _) => "list" | some (.dK _) => "dict" | _ => "tuple") ∈ _
    rw [h]
    exact (by decide : "tuple" ∈ ["NoneType", "bool", "int", "str", "list", "dict", "tuple"])
theorem Pl.isi {K : PySem.W.Frag} {H : Hp} {v : V} {c : String} (p : Pl H v) (hc : c ∈ ["int", "bool", "str", "tuple"]) {Q : VK} (q : Q (.bl (isB H v c)) H) : rIsi K [v, .ty c] H Q := by
  have k := kit_all _ p.tyIn _ hc
  obtain ⟨b, hb⟩ := Option.isSome_iff_exists.mp k
  have e : isB H v c = b := by unfold isB; rw [hb]; rfl
  rw [e] at q
  exact ⟨v, .ty c, _, _, b, rfl, .ty c, p.ty, kit_ty hb, q⟩
/-! D5 -/

theorem kbI : (["NoneType", "bool", "int", "str", "list", "dict", "tuple"].map fun T => kitB T "int") = [some false, some true, some true, some false, some false, some false, some false] := by decide +kernel
theorem kbB : (["NoneType", "bool", "int", "str", "list", "dict", "tuple"].map fun T => kitB T "bool") = [some false, some true, some false, some false, some false, some false, some false] := by decide +kernel
theorem kbS : (["NoneType", "bool", "int", "str", "list", "dict", "tuple"].map fun T => kitB T "str") = [some false, some false, some false, some true, some false, some false, some false] := by decide +kernel
theorem kbT : (["NoneType", "bool", "int", "str", "list", "dict", "tuple"].map fun T => kitB T "tuple") = [some false, some false, some false, some false, some false, some false, some true] := by decide +kernel
theorem kb_at {c : String} {b0 b1 b2 b3 b4 b5 b6 : Bool} (k : (["NoneType", "bool", "int", "str", "list", "dict", "tuple"].map fun T => kitB T c) = [some b0, some b1, some b2, some b3, some b4, some b5, some b6]) :
    kitB "NoneType" c = some b0 ∧ kitB "bool" c = some b1 ∧ kitB "int" c = some b2 ∧ kitB "str" c = some b3 ∧ kitB "list" c = some b4 ∧ kitB "dict" c = some b5 ∧ kitB "tuple" c = some b6 := by
  simp only [List.map_cons, List.map_nil, List.cons.injEq, and_true] at k
  exact k
/-- a fact of each kind of plain value -/
def byKind {α : Type} (H : Hp) (v : V) (n b i s l d t : α) : α := match v with
  | .non => n | .bl _ => b | .int _ => i | .str _ => s
  | .ref a => match H a with
    | some (.lst _) => l
    | some (.dK _) => d
    | _ => t
  | _ => t
theorem Pl.kit {K : PySem.W.Frag} {H : Hp} {v : V} (p : Pl H v) {c : String} {b0 b1 b2 b3 b4 b5 b6 : Bool} (k : (["NoneType", "bool", "int", "str", "list", "dict", "tuple"].map fun T => kitB T c) = [some b0, some b1, some b2, some b3, some b4, some b5, some b6]) :
    PySem.W.kitOne K (.type (tyN H v)) (.type c) = some (byKind H v b0 b1 b2 b3 b4 b5 b6) := by
  obtain ⟨k0, k1, k2, k3, k4, k5, k6⟩ := kb_at k
  apply kit_ty
  unfold tyN byKind
  cases p with
  | non => exact k0
  | bl b => exact k1
  | int i => exact k2
  | str z h k => exact k3
  | lst h => simp only [h]; exact k4
  | dct h => simp only [h]; exact k5
  | tup h hl hx => simp only [h]; exact k6
def intB : V → Bool
  | .int i => decide ((if i < 0 then -i else i) < (10 : Int) ^ (60 : Int).toNat)
  | _ => false
def spB (f : Hp → V → Bool) : Sp := fun vs H Q _ => ∃ v, vs = [v] ∧ Pl H v ∧ ∀ H', Same H H' → Q (.bl (f H v)) H'
theorem pow60 : CPowB 10 60 := ⟨by decide, by decide +kernel⟩
section
variable {P : Program} {w : World} {K : PySem.W.Frag} {mg : Str → Option Value} {base : Heap}
theorem ok_is_integer (T : Tx K mg) : FnOk P w K mg base CX0 1 T.a_is_integer T.d_is_integer ["value"] (spB fun _ v => intB v) := by
  refine T.F_is_integer.ok sc_is_integer (fun vs H Q E h => ?_) (fun cdv A outer s H vs Q E hr h => ?_)
  · obtain ⟨v, rfl, _⟩ := h
    rfl
  · obtain ⟨v, rfl, p, q⟩ := h
    refine ⟨_, (pss_one (ps_ret (pe_and (pe_callB (call_isiK1 K) (by rfl) T.n_isinstance (by decide +kernel) (pa_cons (pv 0) (pa_cons (pe_bltn (v := .ty "int") (by rfl) T.n_int (by decide +kernel) rfl) pa_nil))) (pe_and (pe_not (pe_callB (call_isiK1 K) (by rfl) T.n_isinstance (by decide +kernel) (pa_cons (pv 0) (pa_cons (pe_bltn (v := .ty "bool") (by rfl) T.n_bool (by decide +kernel) rfl) pa_nil)))) (pe_one (pe_cmpR op_lt (pe_callB call_abs (by rfl) T.n_abs (by decide +kernel) (pa_cons (pv 0) pa_nil)) (pe_op op_powB pe_int pe_int) (nomark _))))))), ?_⟩
    refine ⟨_, rfl, v, .ty "int", _, _, _, rfl, .ty "int", p.ty, p.kit kbI, _, rfl, ite2 (fun e => ?_) (fun e => ?_)⟩
    · refine ⟨_, rfl, v, .ty "bool", _, _, _, rfl, .ty "bool", p.ty, p.kit kbB, _, rfl, _, rfl, ite2 (fun e' => ?_) (fun e' => ?_)⟩
      · skip
        cases p with
        | int i => exact ⟨_, rfl, i, rfl, _, _, rfl, rfl, pow60, _, _, rfl, rfl, q _ (Same.refl _)⟩
        | bl b => cases e'
        | non => cases e
        | str z h k => cases e
        | lst h => simp only [byKind, h] at e; cases e
        | dct h => simp only [byKind, h] at e; cases e
        | tup h hl hx => simp only [byKind, h] at e; cases e
      · skip
        have z : (!byKind H v false true false false false false false) = false := by simpa using e'
        have := q _ (Same.refl _)
        cases p with
        | int i => cases z
        | bl b => exact this
        | non => cases e
        | str z h k => cases e
        | lst h => exact this
        | dct h => exact this
        | tup h hl hx => exact this
    · have := q _ (Same.refl _)
      have e : byKind H v false true true false false false false = false := by simpa using e
      cases p with
      | int i => cases e
      | bl b => exact this
      | non => exact this
      | str z h k => exact this
      | lst h => exact this
      | dct h => exact this
      | tup h hl hx => exact this
theorem short_eq (i : Int) : (decide (0 - (10 : Int) ^ (60 : Int).toNat < i) && decide (i < (10 : Int) ^ (60 : Int).toNat)) = decide ((if i < 0 then -i else i) < (10 : Int) ^ (60 : Int).toNat) := by
  have e : (10 : Int) ^ (60 : Int).toNat = 1000000000000000000000000000000000000000000000000000000000000 := by decide +kernel
  rw [e, ← Bool.decide_and]
  apply decide_eq_decide.mpr
  split <;> omega
theorem ok_is_short (T : Tx K mg) : FnOk P w K mg base CX0 1 T.a_l_is_short T.d_l_is_short ["value"] (spB fun _ v => intB v) := by
  refine T.F_l_is_short.ok sc_l_is_short (fun vs H Q E h => ?_) (fun cdv A outer s H vs Q E hr h => ?_)
  · obtain ⟨v, rfl, _⟩ := h
    rfl
  · obtain ⟨v, rfl, p, q⟩ := h
    refine ⟨_, (pss_one (ps_ret (pe_and (pe_callB (call_isiK1 K) (by rfl) T.n_isinstance (by decide +kernel) (pa_cons (pv 0) (pa_cons (pe_bltn (v := .ty "int") (by rfl) T.n_int (by decide +kernel) rfl) pa_nil))) (pe_and (pe_not (pe_callB (call_isiK1 K) (by rfl) T.n_isinstance (by decide +kernel) (pa_cons (pv 0) (pa_cons (pe_bltn (v := .ty "bool") (by rfl) T.n_bool (by decide +kernel) rfl) pa_nil)))) (pe_and (pe_cmpR op_lt (pe_op op_sub pe_int (pe_op op_powB pe_int pe_int)) (pv 0) (nomark _)) (pe_one (pe_cmpR op_lt (pv 0) (pe_op op_powB pe_int pe_int) (nomark _)))))))), ?_⟩
    refine ⟨_, rfl, v, .ty "int", _, _, _, rfl, .ty "int", p.ty, p.kit kbI, _, rfl, ite2 (fun e => ?_) (fun e => ?_)⟩
    · refine ⟨_, rfl, v, .ty "bool", _, _, _, rfl, .ty "bool", p.ty, p.kit kbB, _, rfl, _, rfl, ite2 (fun e' => ?_) (fun e' => ?_)⟩
      · skip
        cases p with
        | int i =>
          have : Q (.bl (intB (.int i))) H := q _ (Same.refl _)
          rw [show intB (.int i) = (decide (0 - (10 : Int) ^ (60 : Int).toNat < i) && decide (i < (10 : Int) ^ (60 : Int).toNat)) from (short_eq i).symm] at this
          refine ⟨_, _, rfl, rfl, pow60, _, _, rfl, rfl, _, rfl, _, _, rfl, rfl, _, rfl, ite2 (fun e3 => ?_) (fun e3 => ?_)⟩
          · refine ⟨_, rfl, _, _, rfl, rfl, pow60, _, _, rfl, rfl, ?_⟩
            rw [e3, Bool.true_and] at this
            exact this
          · rw [show decide (0 - (10 : Int) ^ (60 : Int).toNat < i) = false by simpa using e3, Bool.false_and] at this
            exact this
        | bl b => cases e'
        | non => cases e
        | str z h k => cases e
        | lst h => simp only [byKind, h] at e; cases e
        | dct h => simp only [byKind, h] at e; cases e
        | tup h hl hx => simp only [byKind, h] at e; cases e
      · skip
        have z : (!byKind H v false true false false false false false) = false := by simpa using e'
        have := q _ (Same.refl _)
        cases p with
        | int i => cases z
        | bl b => exact this
        | non => cases e
        | str z h k => cases e
        | lst h => exact this
        | dct h => exact this
        | tup h hl hx => exact this
    · have := q _ (Same.refl _)
      have e : byKind H v false true true false false false false = false := by simpa using e
      cases p with
      | int i => cases e
      | bl b => exact this
      | non => exact this
      | str z h k => exact this
      | lst h => exact this
      | dct h => exact this
      | tup h hl hx => exact this
end
/-! D6 -/

def isLow (c : Nat) : Bool := decide (97 ≤ c) && decide (c ≤ 122)
def nameS (z : Str) : Bool := decide (1 ≤ z.length) && decide (z.length ≤ 8) && z.cps.toList.all isLow
def nameB : V → Bool
  | .str z => nameS z
  | _ => false
theorem len_line {z : Str} (h : z.length ≤ 10000) : z.length ≤ sizeLine := Nat.le_trans h (by decide)
theorem lt_one (c d : Nat) : decide (([c] : List Nat) < [d]) = decide (c < d) := by
  apply decide_eq_decide.mpr
  constructor
  · intro h
    cases h with
    | rel h => exact h
    | cons h => cases h
  · exact fun h => .rel h
theorem a_cps : ("a" : Str).cps.toList = [97] := by decide +kernel
theorem z_cps : ("z" : Str).cps.toList = [122] := by decide +kernel
def lowV : V → V
  | .str z => match z.cps.toList with
    | [c] => .bl (isLow c)
    | _ => .bl false
  | _ => .bl false
theorem signs_low (z : Str) : (signsV z).map lowV = (z.cps.toList.map isLow).map V.bl := by
  unfold signsV
  rw [List.map_map, List.map_map]
  rfl
theorem filter_yes {α : Type} (l : List α) : l.filter (fun _ => true) = l := List.filter_eq_self.mpr fun _ _ => rfl
theorem sq_new {K : PySem.W.Frag} {H : Hp} {a : Addr} {xs : List V} (h : H a = some (.lst xs)) : SqL K H a xs := .inl (.inl h)
section
variable {P : Program} {w : World} {K : PySem.W.Frag} {mg : Str → Option Value} {base : Heap}
theorem ok_is_name (T : Tx K mg) : FnOk P w K mg base CX0 1 T.a_is_name T.d_is_name ["value"] (spB fun _ v => nameB v) := by
  refine T.F_is_name.ok sc_is_name (fun vs H Q E h => ?_) (fun cdv A outer s H vs Q E hr h => ?_)
  · obtain ⟨v, rfl, _⟩ := h
    rfl
  · obtain ⟨v, rfl, p, q⟩ := h
    refine ⟨_, (pss_cons (ps_if (PW.pt (pw_or (pt_not (pt_val (pe_callB (call_isiK1 K) (by rfl) T.n_isinstance (by decide +kernel) (pa_cons (pv 0) (pa_cons (pe_bltn (v := .ty "str") (by rfl) T.n_str (by decide +kernel) rfl) pa_nil))))) (pw_or1 (pt_not (pt_chain op_le op_le pe_int (pe_callB call_len_str (by rfl) T.n_len (by decide +kernel) (pa_cons (pv 0) pa_nil)) (pe_glob (v := .int 8) rfl T.v_MAX_LETTERS ⟨_, rfl⟩))))))
      (pss_one (ps_ret pe_bl))
      pss_nil)
      (pss_one (ps_ret (pe_callB (cr_allK K rfl) (by rfl) T.n_all (by decide +kernel) (pa_cons (pe_lc (own := [("sign", 1)]) (g := gName 1) rfl sc_is_name.nd (pi_str (pv 0)) (blkOk_by (own := [("sign", 1)]) (N := ["value", "sign"]) (sc := defScope s_is_name) (by decide +kernel)) (fun _ _ _ _ _ => (pg_name (i := 1) sc_is_name.nd rfl (Or.inl rfl))) (fun _ _ _ _ _ => pts_nil) (fun _ _ _ _ _ => (pe_chain op_le_str op_le_str pe_str (pv 1) pe_str))) pa_nil))))), ?_⟩
    refine ⟨_, rfl, v, .ty "str", _, _, _, rfl, .ty "str", p.ty, p.kit kbS, _, rfl, ite2 (fun e => ?_) (fun e => ?_)⟩
    · have := q _ (Same.refl _)
      cases p with
      | str z h k => cases e
      | int i => exact this
      | bl b => exact this
      | non => exact this
      | lst h => exact this
      | dct h => exact this
      | tup h hl hx => exact this
    · cases p with
      | int i => exact absurd rfl e
      | bl b => exact absurd rfl e
      | non => exact absurd rfl e
      | lst h => exact absurd (by simp [byKind, h]) e
      | dct h => exact absurd (by simp [byKind, h]) e
      | tup h hl hx => exact absurd (by simp [byKind, h]) e
      | str z hz kz =>
        have q : ∀ H', Same H H' → Q (.bl (nameS z)) H' := q
        refine ⟨_, rfl, z, rfl, len_line hz, _, _, rfl, rfl, _, rfl, ite2 (fun e1 => ?_) (fun e1 => ?_)⟩
        · have g1 : 1 ≤ z.length := by have := of_decide_eq_true e1; omega
          refine ⟨_, _, rfl, rfl, _, rfl, ite2 (fun e2 => ?_) (fun e2 => ?_)⟩
          · have g2 : ¬ z.length ≤ 8 := by
              have : decide ((z.length : Int) ≤ 8) = false := by simpa using e2
              have := of_decide_eq_false this
              omega
            have r := q _ (Same.refl _)
            rw [show nameS z = false by unfold nameS; rw [decide_eq_false g2]; simp] at r
            exact r
          · have g2 : z.length ≤ 8 := by
              have : decide ((z.length : Int) ≤ 8) = true := by simpa using e2
              have := of_decide_eq_true this
              omega
            refine ⟨_, rfl, z, rfl, fun D nD => ?_⟩
            refine lc_pure walk_strV (fun _ => true) lowV nD (by unfold signsV; rw [List.length_map, Array.length_toList]; exact Nat.le_trans (show z.length ≤ 10000 from hz) (by decide)) (fun _ _ => trivial) ?_ ?_
            · intro x H' N1 N0 mem s1 n1 n0
              obtain ⟨c, hc, rfl⟩ := List.mem_map.mp mem
              have r := n1 rfl H' (Same.refl _)
              refine ⟨rfl, _, rfl, _, _, rfl, rfl, _, rfl, ite2 (fun e3 => ?_) (fun e3 => ?_)⟩
              · refine ⟨_, _, rfl, rfl, ?_⟩
                rw [a_cps] at e3
                have e3 : (!decide (([c] : List Nat) < [97])) = true := e3
                rw [lt_one] at e3
                have g3 : 97 ≤ c := by
                  have : decide (c < 97) = false := by simpa using e3
                  have := of_decide_eq_false this
                  omega
                have : lowV (.str ⟨#[c]⟩) = .bl (!decide (("z" : Str).cps.toList < (⟨#[c]⟩ : Str).cps.toList)) := by
                  rw [z_cps]
                  show V.bl (isLow c) = .bl (!decide (([122] : List Nat) < [c]))
                  rw [lt_one]
                  unfold isLow
                  rw [decide_eq_true g3, Bool.true_and, ← decide_not]
                  congr 1
                  apply decide_eq_decide.mpr
                  omega
                rw [this] at r
                exact r
              · rw [a_cps] at e3
                have e3 : ¬ (!decide (([c] : List Nat) < [97])) = true := e3
                rw [lt_one] at e3
                have g3 : ¬ 97 ≤ c := by
                  have : decide (c < 97) = true := by simpa using e3
                  have := of_decide_eq_true this
                  omega
                have : lowV (.str ⟨#[c]⟩) = .bl false := by
                  show V.bl (isLow c) = .bl false
                  unfold isLow
                  rw [decide_eq_false g3, Bool.false_and]
                rw [this] at r
                exact r
            · intro H' s1 eD
              rw [filter_yes, signs_low] at eD
              refine ⟨D, _, rfl, sq_new eD, ?_⟩
              have r := q H' s1
              rw [show nameS z = (z.cps.toList.map isLow).all id by unfold nameS; rw [decide_eq_true g1, decide_eq_true g2, List.all_map]; rfl] at r
              exact r
        · have g1 : ¬ 1 ≤ z.length := by
            have : decide ((1 : Int) ≤ z.length) = false := by simpa using e1
            have := of_decide_eq_false this
            omega
          have r := q _ (Same.refl _)
          rw [show nameS z = false by unfold nameS; rw [decide_eq_false g1]; simp] at r
          exact ⟨_, rfl, r⟩
end
/-! D7 -/

theorem letters_in (c : Nat) : decide (c ∈ ("abcdefghijklmnopqrstuvwxyz" : Str).cps.toList) = isLow c := by
  rw [letters]
  unfold isLow
  rw [← Bool.decide_and]
  apply decide_eq_decide.mpr
  constructor
  · intro h
    have : ∀ x ∈ [97, 98, 99, 100, 101, 102, 103, 104, 105, 106, 107, 108, 109, 110, 111, 112, 113, 114, 115, 116, 117, 118, 119, 120, 121, 122], 97 ≤ x ∧ x ≤ 122 := by decide
    exact this c h
  · rintro ⟨h1, h2⟩
    have : ∀ x, x ≤ 122 → 97 ≤ x → x ∈ [97, 98, 99, 100, 101, 102, 103, 104, 105, 106, 107, 108, 109, 110, 111, 112, 113, 114, 115, 116, 117, 118, 119, 120, 121, 122] := by decide
    exact this c h2 h1
/-- a list of data beside the empty list -/
theorem eqv_nil (ds : List PyData) : PyData.eqv (.list ds) (.list []) = ds.isEmpty := by cases ds <;> rfl
def oddV : V → Bool
  | .str z => match z.cps.toList with
    | [c] => !isLow c
    | _ => true
  | _ => true
def one (c : Nat) : Str := ⟨#[c]⟩
theorem signs_ones (z : Str) : signsV z = (z.cps.toList.map one).map V.str := by
  unfold signsV
  rw [List.map_map]
  rfl
theorem odd_filter (z : Str) : ((signsV z).filter oddV).map id = ((z.cps.toList.filter fun c => !isLow c).map one).map V.str := by
  rw [List.map_id, signs_ones, List.map_map, List.map_map, List.filter_map]
  rfl
def rowB (H : Hp) : V → Bool
  | .ref a => match H a with
    | some (.tup xs) => xs.all nameB
    | _ => false
  | _ => false
section
variable {P : Program} {w : World} {K : PySem.W.Frag} {mg : Str → Option Value} {base : Heap}
theorem ok_spelled (T : Tx K mg) : FnOk P w K mg base CX0 1 T.a_l_spelled T.d_l_spelled ["value"] (spB fun _ v => nameB v) := by
  refine T.F_l_spelled.ok sc_l_spelled (fun vs H Q E h => ?_) (fun cdv A outer s H vs Q E hr h => ?_)
  · obtain ⟨v, rfl, _⟩ := h
    rfl
  · obtain ⟨v, rfl, p, q⟩ := h
    refine ⟨_, (pss_cons (ps_if (PW.pt (pw_or (pt_not (pt_val (pe_callB (call_isiK1 K) (by rfl) T.n_isinstance (by decide +kernel) (pa_cons (pv 0) (pa_cons (pe_bltn (v := .ty "str") (by rfl) T.n_str (by decide +kernel) rfl) pa_nil))))) (pw_or (pt_cmpR op_eq (pe_callB call_len_str (by rfl) T.n_len (by decide +kernel) (pa_cons (pv 0) pa_nil)) pe_int (nomark _)) (pw_or1 (pt_cmpR op_gt (pe_callB call_len_str (by rfl) T.n_len (by decide +kernel) (pa_cons (pv 0) pa_nil)) pe_int (nomark _))))))
      (pss_one (ps_ret pe_bl))
      pss_nil)
      (pss_one (ps_ret (pe_cmpR (op_eqDK K hr.units) (pe_lc (own := [("sign", 1)]) (g := gName 1) rfl sc_l_spelled.nd (pi_str (pv 0)) (blkOk_by (own := [("sign", 1)]) (N := ["value", "sign"]) (sc := defScope s_l_spelled) (by decide +kernel)) (fun _ _ _ _ _ => (pg_name (i := 1) sc_l_spelled.nd rfl (Or.inl rfl))) (fun _ _ _ _ _ => (pts_one (pt_cmpR op_notIn_sign (pv 1) pe_str (by rfl)))) (fun _ _ _ _ _ => (pv 1))) (pe_lst pa_nil) (nomark _))))), ?_⟩
    refine ⟨_, rfl, v, .ty "str", _, _, _, rfl, .ty "str", p.ty, p.kit kbS, _, rfl, ite2 (fun e => ?_) (fun e => ?_)⟩
    · have := q _ (Same.refl _)
      cases p with
      | str z h k => cases e
      | int i => exact this
      | bl b => exact this
      | non => exact this
      | lst h => exact this
      | dct h => exact this
      | tup h hl hx => exact this
    · cases p with
      | int i => exact absurd rfl e
      | bl b => exact absurd rfl e
      | non => exact absurd rfl e
      | lst h => exact absurd (by simp [byKind, h]) e
      | dct h => exact absurd (by simp [byKind, h]) e
      | tup h hl hx => exact absurd (by simp [byKind, h]) e
      | str z hz kz =>
        have q : ∀ H', Same H H' → Q (.bl (nameS z)) H' := q
        refine ⟨_, rfl, z, rfl, len_line hz, rfl, _, rfl, ite2 (fun e1 => ?_) (fun e1 => ?_)⟩
        · have g1 : ¬ 1 ≤ z.length := by
            have := V.int.inj (of_decide_eq_true e1)
            omega
          have r := q _ (Same.refl _)
          rw [show nameS z = false by unfold nameS; rw [decide_eq_false g1]; simp] at r
          exact r
        · have g1 : 1 ≤ z.length := by
            have : ¬ V.int (z.length : Int) = V.int 0 := of_decide_eq_false (by simpa using e1)
            have : ¬ (z.length : Int) = 0 := fun h => this (congrArg V.int h)
            omega
          refine ⟨_, rfl, z, rfl, len_line hz, _, _, rfl, rfl, _, rfl, ite2 (fun e2 => ?_) (fun e2 => ?_)⟩
          · have g2 : ¬ z.length ≤ 8 := by
              have := of_decide_eq_true e2
              omega
            have r := q _ (Same.refl _)
            rw [show nameS z = false by unfold nameS; rw [decide_eq_false g2]; simp] at r
            exact r
          · have g2 : z.length ≤ 8 := by
              have : decide ((8 : Int) < z.length) = false := by simpa using e2
              have := of_decide_eq_false this
              omega
            refine ⟨_, rfl, z, rfl, fun D nD => ?_⟩
            refine lc_pure walk_strV oddV id nD (by unfold signsV; rw [List.length_map, Array.length_toList]; exact Nat.le_trans (show z.length ≤ 10000 from hz) (by decide)) (fun _ _ => trivial) ?_ ?_
            · intro x H' N1 N0 mem s1 n1 n0
              obtain ⟨c, hc, rfl⟩ := List.mem_map.mp mem
              refine ⟨rfl, _, rfl, c, _, rfl, rfl, _, rfl, ite2 (fun e3 => ?_) (fun e3 => ?_)⟩
              · rw [letters_in] at e3
                exact ⟨_, rfl, n1 e3 H' (Same.refl _)⟩
              · rw [letters_in] at e3
                exact n0 (show (!isLow c) = false by simpa using e3) H' (Same.refl _)
            · intro H' s1 eD
              rw [odd_filter] at eD
              refine ⟨by decide, fun L nL => ?_⟩
              have eD2 : (upd H' L (.lst [])) D = some (.lst (((z.cps.toList.filter fun c => !isLow c).map one).map V.str)) := (same_new nL _) _ _ eD
              obtain ⟨ds, da, dl, de⟩ := DaAll.of (H := upd H' L (.lst [])) (n := 0) (((z.cps.toList.filter fun c => !isLow c).map one).map V.str) (by
                intro x hx
                obtain ⟨y, hy, rfl⟩ := List.mem_map.mp hx
                obtain ⟨c, hc, rfl⟩ := List.mem_map.mp hy
                refine ⟨_, .str (one c) (show 1 ≤ 10000 by decide) ?_, Nat.le_refl _⟩
                intro d hd
                have : d = c := by simpa [one] using hd
                subst this
                exact kz _ (List.mem_filter.mp hc).1)
              refine ⟨.list ds, .list [], .lst (sq_new eD2) da.dp, .lst (sq_new upd_same) .nil, da.shaped (by omega), rfl, ?_⟩
              rw [eqv_nil, de]
              have r := q _ (s1.trans (same_new nL (.lst [])))
              rw [show nameS z = (((z.cps.toList.filter fun c => !isLow c).map one).map V.str).isEmpty by
                unfold nameS
                rw [decide_eq_true g1, decide_eq_true g2, List.isEmpty_map, List.isEmpty_map]
                rw [Bool.true_and, Bool.true_and, Bool.eq_iff_iff, List.all_eq_true, List.isEmpty_iff, List.filter_eq_nil_iff]
                simp] at r
              exact r
theorem ok_is_names (T : Tx K mg) : FnOk P w K mg base CX0 2 T.a_is_names T.d_is_names ["value"] (spB rowB) := by
  have G_is_name : FnOk P w K mg base CX0 1 T.a_is_name T.d_is_name ["value"] (spB fun _ v => nameB v) := ok_is_name T
  refine T.F_is_names.ok sc_is_names (fun vs H Q E h => ?_) (fun cdv A outer s H vs Q E hr h => ?_)
  · obtain ⟨v, rfl, _⟩ := h
    rfl
  · obtain ⟨v, rfl, p, q⟩ := h
    refine ⟨_, (pss_one (ps_ret (pe_and (pe_callB (call_isiK1 K) (by rfl) T.n_isinstance (by decide +kernel) (pa_cons (pv 0) (pa_cons (pe_bltn (v := .ty "tuple") (by rfl) T.n_tuple (by decide +kernel) rfl) pa_nil))) (pe_one (pe_callB (cr_allK K rfl) (by rfl) T.n_all (by decide +kernel) (pa_cons (pe_lc (own := [("name", 1)]) (g := gName 1) rfl sc_is_names.nd (pi_tup (pv 0)) (blkOk_by (own := [("name", 1)]) (N := ["value", "name"]) (sc := defScope s_is_names) (by decide +kernel)) (fun _ _ _ _ _ => (pg_name (i := 1) sc_is_names.nd rfl (Or.inl rfl))) (fun _ _ _ _ _ => pts_nil) (fun _ _ _ _ _ => (pe_call G_is_name (hr.mono (by decide)) (by rfl) T.g_is_name T.F_is_name.kp T.b_is_name .nil pass0 (pa_cons (pv 1) pa_nil)))) pa_nil)))))), ?_⟩
    refine ⟨_, rfl, v, .ty "tuple", _, _, _, rfl, .ty "tuple", p.ty, p.kit kbT, _, rfl, ite2 (fun e => ?_) (fun e => ?_)⟩
    · cases p with
      | str z h k => cases e
      | int i => cases e
      | bl b => cases e
      | non => cases e
      | lst h => exact absurd e (by simp [byKind, h])
      | dct h => exact absurd e (by simp [byKind, h])
      | @tup a xs h hl hx =>
        refine ⟨_, rfl, a, rfl, ⟨xs, .inl (.inl h)⟩, fun D nD => ?_⟩
        refine lc_pure walk_tupV (fun _ => true) (fun x => .bl (nameB x)) nD (Nat.le_trans hl (by decide)) (fun H' s1 => .inl (.inl (s1 _ _ h))) ?_ ?_
        · intro x H' N1 N0 mem s1 n1 n0
          obtain ⟨d, hd, hdl⟩ := hx x mem
          exact ⟨rfl, x, rfl, x, rfl, (hd.pl hdl).mono s1, fun H2 s2 => n1 rfl H2 s2⟩
        · intro H' s1 eD
          rw [filter_yes] at eD
          have e2 : xs.map (fun x => V.bl (nameB x)) = (xs.map nameB).map V.bl := by rw [List.map_map]; rfl
          rw [e2] at eD
          refine ⟨D, _, rfl, sq_new eD, ?_⟩
          have r := q H' s1
          rw [show rowB H (.ref a) = (xs.map nameB).all id by simp only [rowB, h]; rw [List.all_map]; rfl] at r
          exact r
    · have r := q _ (Same.refl _)
      cases p with
      | str z h k => exact r
      | int i => exact r
      | bl b => exact r
      | non => exact r
      | lst h => simp only [rowB, h] at r; exact r
      | dct h => simp only [rowB, h] at r; exact r
      | tup h hl hx => exact absurd (by simp [byKind, h]) e
end
/-! D8 -/

def ltV : V → V → V
  | .str a, .str b => .bl (decide (a.cps.toList < b.cps.toList))
  | _, _ => .bl false
def strsOf : List V → List Str
  | [] => []
  | .str z :: r => z :: strsOf r
  | _ :: r => strsOf r
def upS : List Str → Bool
  | x :: y :: r => decide (x.cps.toList < y.cps.toList) && upS (y :: r)
  | _ => true
theorem strs_of : ∀ (xs : List V), xs.all nameB = true → xs = (strsOf xs).map V.str ∧ ∀ z ∈ strsOf xs, nameS z = true
  | [], _ => ⟨rfl, fun z h => by cases h⟩
  | x :: xs, h => by
    rw [List.all_cons, Bool.and_eq_true] at h
    obtain ⟨e, g⟩ := strs_of xs h.2
    cases x with
    | str z =>
      refine ⟨?_, fun y hy => ?_⟩
      · show V.str z :: xs = V.str z :: (strsOf xs).map V.str
        rw [← e]
      · rcases List.mem_cons.mp hy with q | q
        · rw [q]; exact h.1
        · exact g y q
    | _ => exact absurd h.1 (by simp [nameB])
theorem up_zip : ∀ l : List Str, (List.zipWith ltV (l.map V.str) ((l.map V.str).drop 1)) = (List.zipWith (fun (a b : Str) => decide (a.cps.toList < b.cps.toList)) l (l.drop 1)).map V.bl
  | [] => rfl
  | [x] => rfl
  | x :: y :: r => by
    have := up_zip (y :: r)
    show ltV (.str x) (.str y) :: List.zipWith ltV ((y :: r).map V.str) (r.map V.str) = _
    have e : List.zipWith ltV ((y :: r).map V.str) (r.map V.str) = List.zipWith ltV ((y :: r).map V.str) (((y :: r).map V.str).drop 1) := rfl
    rw [e, this]
    rfl
theorem up_all : ∀ l : List Str, (List.zipWith (fun (a b : Str) => decide (a.cps.toList < b.cps.toList)) l (l.drop 1)).all id = upS l
  | [] => rfl
  | [x] => rfl
  | x :: y :: r => by
    have := up_all (y :: r)
    show (decide (x.cps.toList < y.cps.toList) && (List.zipWith (fun (a b : Str) => decide (a.cps.toList < b.cps.toList)) (y :: r) ((y :: r).drop 1)).all id) = _
    rw [this]
    rfl
def setB (H : Hp) (v : V) : Bool := rowB H v && match v with
  | .ref a => match H a with
    | some (.tup xs) => upS (strsOf xs)
    | _ => false
  | _ => false
theorem cut_one (xs : List V) : cutV xs (some 1) none = xs.drop 1 := by
  unfold cutV
  rw [show HT.sIx xs.length 0 (some 1) = min 1 xs.length from HT.sIx_nat xs.length 0 1, HT.sIx_none]
  cases xs with
  | nil => rfl
  | cons x r =>
    rw [show min 1 (x :: r).length = 1 by rw [List.length_cons]; omega]
    show (List.take ((x :: r).length - 1) r) = r
    rw [List.length_cons, Nat.add_sub_cancel]
    exact List.take_length
section
variable {P : Program} {w : World} {K : PySem.W.Frag} {mg : Str → Option Value} {base : Heap}
theorem ok_name_row (T : Tx K mg) : FnOk P w K mg base CX0 2 T.a_l_is_name_row T.d_l_is_name_row ["value"] (spB rowB) := by
  have G_l_spelled : FnOk P w K mg base CX0 1 T.a_l_spelled T.d_l_spelled ["value"] (spB fun _ v => nameB v) := ok_spelled T
  refine T.F_l_is_name_row.ok sc_l_is_name_row (fun vs H Q E h => ?_) (fun cdv A outer s H vs Q E hr h => ?_)
  · obtain ⟨v, rfl, _⟩ := h
    rfl
  · obtain ⟨v, rfl, p, q⟩ := h
    refine ⟨_, (pss_one (ps_ret (pe_and (pe_callB (call_isiK1 K) (by rfl) T.n_isinstance (by decide +kernel) (pa_cons (pv 0) (pa_cons (pe_bltn (v := .ty "tuple") (by rfl) T.n_tuple (by decide +kernel) rfl) pa_nil))) (pe_one (pe_cmpR (op_eqDK K hr.units) (pe_lc (own := [("name", 1)]) (g := gName 1) rfl sc_l_is_name_row.nd (pi_tup (pv 0)) (blkOk_by (own := [("name", 1)]) (N := ["value", "name"]) (sc := defScope s_l_is_name_row) (by decide +kernel)) (fun _ _ _ _ _ => (pg_name (i := 1) sc_l_is_name_row.nd rfl (Or.inl rfl))) (fun _ _ _ _ _ => (pts_one (pt_not (pt_val (pe_call G_l_spelled (hr.mono (by decide)) (by rfl) T.g_l_spelled T.F_l_spelled.kp T.b_l_spelled .nil pass0 (pa_cons (pv 1) pa_nil)))))) (fun _ _ _ _ _ => (pv 1))) (pe_lst pa_nil) (nomark _)))))), ?_⟩
    refine ⟨_, rfl, v, .ty "tuple", _, _, _, rfl, .ty "tuple", p.ty, p.kit kbT, _, rfl, ite2 (fun e => ?_) (fun e => ?_)⟩
    · cases p with
      | str z h k => cases e
      | int i => cases e
      | bl b => cases e
      | non => cases e
      | lst h => exact absurd e (by simp [byKind, h])
      | dct h => exact absurd e (by simp [byKind, h])
      | @tup a xs h hl hx =>
        refine ⟨_, rfl, a, rfl, ⟨xs, .inl (.inl h)⟩, fun D nD => ?_⟩
        refine lc_pure walk_tupV (fun x => !nameB x) id nD (Nat.le_trans hl (by decide)) (fun H' s1 => .inl (.inl (s1 _ _ h))) ?_ ?_
        · intro x H' N1 N0 mem s1 n1 n0
          obtain ⟨d, hd, hdl⟩ := hx x mem
          refine ⟨rfl, x, rfl, x, rfl, (hd.pl hdl).mono s1, fun H2 s2 => ⟨_, rfl, ite2 (fun e3 => ?_) (fun e3 => ?_)⟩⟩
          · exact ⟨_, rfl, n1 e3 H2 s2⟩
          · exact n0 (by simpa using e3) H2 s2
        · intro H' s1 eD
          rw [List.map_id] at eD
          refine ⟨by decide, fun L nL => ?_⟩
          have s2 := same_new nL (.lst [])
          have eD2 := s2 _ _ eD
          obtain ⟨ds, da, dl, de⟩ := DaAll.of (H := upd H' L (.lst [])) (n := 10) (xs.filter fun x => !nameB x) (by
            intro x hx'
            obtain ⟨d, hd, hdl⟩ := hx x (List.mem_filter.mp hx').1
            exact ⟨d, (hd.mono s1).mono s2, hdl⟩)
          refine ⟨.list ds, .list [], .lst (sq_new eD2) da.dp, .lst (sq_new upd_same) .nil, da.shaped (by omega), rfl, ?_⟩
          rw [eqv_nil, de]
          have r := q _ (s1.trans s2)
          rw [show rowB H (.ref a) = (xs.filter fun x => !nameB x).isEmpty by
            simp only [rowB, h]
            rw [Bool.eq_iff_iff, List.all_eq_true, List.isEmpty_iff, List.filter_eq_nil_iff]
            simp] at r
          exact r
    · have r := q _ (Same.refl _)
      cases p with
      | str z h k => exact r
      | int i => exact r
      | bl b => exact r
      | non => exact r
      | lst h => simp only [rowB, h] at r; exact r
      | dct h => simp only [rowB, h] at r; exact r
      | tup h hl hx => exact absurd (by simp [byKind, h]) e
theorem row_yes {H : Hp} {v : V} (p : Pl H v) (e : rowB H v = true) : ∃ a l, v = .ref a ∧ H a = some (.tup (l.map V.str)) ∧ l.length ≤ 50 ∧ (∀ z ∈ l, nameS z = true ∧ ascS z) ∧ setB H v = upS l := by
  cases p with
  | str z h k => cases e
  | int i => cases e
  | bl b => cases e
  | non => cases e
  | lst h => simp only [rowB, h] at e; cases e
  | dct h => simp only [rowB, h] at e; cases e
  | @tup a xs h hl hx =>
    simp only [rowB, h] at e
    obtain ⟨e1, e2⟩ := strs_of xs e
    refine ⟨a, strsOf xs, rfl, by rw [← e1]; exact h, ?_, fun z hz => ⟨e2 z hz, ?_⟩, ?_⟩
    · have := congrArg List.length e1
      rw [List.length_map] at this
      omega
    · have : V.str z ∈ xs := by rw [e1]; exact List.mem_map.mpr ⟨z, hz, rfl⟩
      obtain ⟨d, hd, _⟩ := hx _ this
      cases hd with
      | str z h k => exact k
    · simp only [setB, rowB, h, e, Bool.true_and]
theorem ok_is_set (T : Tx K mg) : FnOk P w K mg base CX0 3 T.a_is_set T.d_is_set ["value"] (spB setB) := by
  have G_is_names : FnOk P w K mg base CX0 2 T.a_is_names T.d_is_names ["value"] (spB rowB) := ok_is_names T
  refine T.F_is_set.ok sc_is_set (fun vs H Q E h => ?_) (fun cdv A outer s H vs Q E hr h => ?_)
  · obtain ⟨v, rfl, _⟩ := h
    rfl
  · obtain ⟨v, rfl, p, q⟩ := h
    refine ⟨_, (pss_one (ps_ret (pe_and (pe_call G_is_names (hr.mono (by decide)) (by rfl) T.g_is_names T.F_is_names.kp T.b_is_names .nil pass0 (pa_cons (pv 0) pa_nil)) (pe_one (pe_callB (cr_allK K rfl) (by rfl) T.n_all (by decide +kernel) (pa_cons (pe_lc (own := [("one", 1), ("other", 2)]) rfl sc_is_set.nd (RZ.pi_zipA (by rfl) T.n_zip (pa_cons (pv 0) (pa_cons (pe_slice (sl_tupK K) (pv 0) (po_some pe_int) po_none) pa_nil))) (blkOk_by (own := [("one", 1), ("other", 2)]) (N := ["value", "one", "other"]) (sc := defScope s_is_set) (by decide +kernel)) (fun _ _ _ _ _ => (pg_tupK K 2 rfl (pgs_cons (pg_name (i := 1) sc_is_set.nd rfl (Or.inl rfl)) (pgs_cons (pg_name (i := 2) sc_is_set.nd rfl (Or.inl rfl)) pgs_nil)))) (fun _ _ _ _ _ => pts_nil) (fun _ _ _ _ _ => (pe_cmpR op_lt_str (pv 1) (pv 2) (nomark _)))) pa_nil)))))), ?_⟩
    refine ⟨_, rfl, v, rfl, p, fun H1 s1 => ⟨_, rfl, ite2 (fun e => ?_) (fun e => ?_)⟩⟩
    · obtain ⟨a, l, rfl, h, hl, hz, es⟩ := row_yes p e
      have h1 := s1 _ _ h
      have fin : ∀ (b : Addr) (H2 : Hp), Same H1 H2 → H2 b = some (.tup ((l.map V.str).drop 1)) → ∀ R : It → Hp → Prop, R (RZ.ItzT K a b) H2 → ∃ (a' b' : Addr) (xs ys : List V), [V.ref a, V.ref b] = [.ref a', .ref b'] ∧ ((SqL K H2 a' xs ∧ SqL K H2 b' ys ∧ R (Itz K a' b') H2) ∨ (SqT K H2 a' xs ∧ SqT K H2 b' ys ∧ R (RZ.ItzT K a' b') H2)) :=
        fun b H2 s2 hb R r => ⟨a, b, _, _, rfl, .inr ⟨.inl (.inl (s2 _ _ h1)), .inl (.inl hb), r⟩⟩
      have rest : ∀ (b : Addr) (H2 : Hp), Same H1 H2 → H2 b = some (.tup ((l.map V.str).drop 1)) → ∀ (D : Addr), H2 D = none → ∀ (Qd : Hp → Prop), (∀ H3, Same H2 H3 → H3 D = some (.lst (List.zipWith ltV (l.map V.str) ((l.map V.str).drop 1))) → Qd H3) →  True := fun _ _ _ _ _ _ _ _ => trivial
      refine ⟨_, rfl, _, rfl, 1, rfl, a, l.map V.str, rfl, .inl (.inl h1), fun wh => ?_, fun wh b nb => ?_⟩
      · have e0 : l = [] := by
          have g := wh.1
          rw [show HT.sIx (l.map V.str).length 0 (some 1) = min 1 (l.map V.str).length from HT.sIx_nat _ 0 1, List.length_map] at g
          cases l with
          | nil => rfl
          | cons x r => rw [List.length_cons] at g; omega
        subst e0
        refine ⟨a, a, [], [], rfl, .inr ⟨.inl (.inl h1), .inl (.inl h1), fun D nD => ?_⟩⟩
        refine lc_pair (walk_zipT (xs := []) (ys := []) rfl) rfl ltV nD (by decide) (fun H2 s2 => ⟨.inl (.inl (s2 _ _ h1)), .inl (.inl (s2 _ _ h1))⟩) ?_ ?_
        · intro x y T H2 N1 N0 mx
          cases mx
        · intro H2 s2 eD
          refine ⟨D, [], rfl, sq_new eD, ?_⟩
          have r := q H2 (s1.trans s2)
          rw [es] at r
          exact r
      · rw [cut_one] at *
        have s2 := same_new nb (.tup ((l.map V.str).drop 1))
        refine ⟨a, b, l.map V.str, (l.map V.str).drop 1, rfl, .inr ⟨.inl (.inl (s2 _ _ h1)), .inl (.inl upd_same), fun D nD => ?_⟩⟩
        refine lc_pair (walk_zipT (xs := l.map V.str) (ys := (l.map V.str).drop 1) rfl) rfl ltV nD (by rw [List.length_map]; omega) (fun H2 s3 => ⟨.inl (.inl (s3 _ _ (s2 _ _ h1))), .inl (.inl (s3 _ _ upd_same))⟩) ?_ ?_
        · intro x y T H2 N1 N0 mx my s3 hT n1
          obtain ⟨x, _, rfl⟩ := List.mem_map.mp mx
          obtain ⟨y, _, rfl⟩ := List.mem_map.mp (List.mem_of_mem_drop my)
          exact ⟨T, [.str x, .str y], rfl, .inl (.inl hT), rfl, .str x, [.str y], rfl, .str y, [], rfl, rfl, rfl, .str x, rfl, .str y, rfl, x, y, rfl, rfl, n1 H2 (Same.refl _)⟩
        · intro H2 s3 eD
          rw [up_zip] at eD
          refine ⟨D, _, rfl, sq_new eD, ?_⟩
          rw [up_all]
          have r := q H2 ((s1.trans s2).trans s3)
          rw [es] at r
          exact r
    · have r := q H1 s1
      rw [show setB H v = false by unfold setB; rw [show rowB H v = false by simpa using e]; rfl] at r
      exact r
end
/-! D9 -/

theorem up_same : ∀ l : List Str, upS l = Gs.up l
  | [] => rfl
  | [_] => rfl
  | x :: y :: r => by
    show (decide (x.cps.toList < y.cps.toList) && upS (y :: r)) = (Gs.lS x y && Gs.up (y :: r))
    rw [lt_meets, up_same (y :: r)]
theorem da_strs {H : Hp} : ∀ {l : List Str}, (∀ z ∈ l, z.length ≤ 10000 ∧ ascS z) → DaAll H (l.map V.str) (l.map PyData.str)
  | [], _ => .nil
  | z :: l, h => .cons (.str z (h z List.mem_cons_self).1 (h z List.mem_cons_self).2) (da_strs fun y m => h y (List.mem_cons_of_mem _ m))
theorem depth_strs : ∀ l : List Str, PyData.depthAll (l.map PyData.str) = 0
  | [] => rfl
  | z :: l => by
    show max (PyData.depth (.str z)) (PyData.depthAll (l.map PyData.str)) = 0
    rw [depth_strs l]
    rfl
theorem nameS_len {z : Str} (h : nameS z = true) : z.length ≤ 8 := by
  unfold nameS at h
  simp only [Bool.and_eq_true, decide_eq_true_eq] at h
  exact h.1.2
section
variable {P : Program} {w : World} {K : PySem.W.Frag} {mg : Str → Option Value} {base : Heap}
theorem ok_name_set (T : Tx K mg) : FnOk P w K mg base CX0 3 T.a_l_is_name_set T.d_l_is_name_set ["value"] (spB setB) := by
  have G_l_is_name_row : FnOk P w K mg base CX0 2 T.a_l_is_name_row T.d_l_is_name_row ["value"] (spB rowB) := ok_name_row T
  refine T.F_l_is_name_set.ok sc_l_is_name_set (fun vs H Q E h => ?_) (fun cdv A outer s H vs Q E hr h => ?_)
  · obtain ⟨v, rfl, _⟩ := h
    rfl
  · obtain ⟨v, rfl, p, q⟩ := h
    refine ⟨_, (pss_one (ps_ret (pe_and (pe_call G_l_is_name_row (hr.mono (by decide)) (by rfl) T.g_l_is_name_row T.F_l_is_name_row.kp T.b_l_is_name_row .nil pass0 (pa_cons (pv 0) pa_nil)) (pe_one (pe_cmpR (op_eqDK K hr.units) (pe_callTy (call_listK K) (by rfl) T.n_list (by decide +kernel) (pa_cons (pv 0) pa_nil)) (pe_callB (Gs.call_sortedTx P w rfl) (by rfl) T.n_sorted (by decide +kernel) (pa_cons (pe_callTy (Gs.call_setT K P w rfl) (by rfl) T.n_set (by decide +kernel) (pa_cons (pv 0) pa_nil)) pa_nil)) (nomark _)))))), ?_⟩
    refine ⟨_, rfl, v, rfl, p, fun H1 s1 => ⟨_, rfl, ite2 (fun e => ?_) (fun e => ?_)⟩⟩
    · obtain ⟨a, l, rfl, h, hl, hz, es⟩ := row_yes p e
      have h1 := s1 _ _ h
      refine ⟨_, rfl, a, l.map V.str, rfl, .inr (.inl (.inl h1)), fun L nL => ?_⟩
      have s2 := same_new nL (.lst (l.map V.str))
      refine ⟨_, rfl, a, l, rfl, .inl (.inl (s2 _ _ h1)), by omega, fun S ks nS nd mem le => ?_⟩
      have s3 := same_new nS (Gs.SetS P w S ks)
      refine ⟨S, ks, rfl, upd_same, by omega, fun p ss np pm so => ?_⟩
      have s4 := same_new np (.lst (ss.map V.str))
      have eL := s4 _ _ (s3 _ _ (upd_same (H := H1) (a := L) (o := .lst (l.map V.str))))
      have mem' : ∀ k, k ∈ ss ↔ k ∈ l := fun k => (pm.mem_iff).trans (mem k)
      have d1 := da_strs (H := upd (upd (upd H1 L (.lst (l.map V.str))) S (Gs.SetS P w S ks)) p (.lst (ss.map V.str))) (l := l) (fun z m => ⟨Nat.le_trans (nameS_len (hz z m).1) (by decide), (hz z m).2⟩)
      have d2 := da_strs (H := upd (upd (upd H1 L (.lst (l.map V.str))) S (Gs.SetS P w S ks)) p (.lst (ss.map V.str))) (l := ss) (fun z m => ⟨Nat.le_trans (nameS_len (hz z ((mem' z).mp m)).1) (by decide), (hz z ((mem' z).mp m)).2⟩)
      refine ⟨.list (l.map .str), .list (ss.map .str), .lst (sq_new eL) d1.dp, .lst (sq_new upd_same) d2.dp, d1.shaped (by rw [depth_strs]; decide), d2.shaped (by rw [depth_strs]; decide), ?_⟩
      rw [Gs.eqv_strs, Gs.up_iff so (pm.nodup_iff.mpr nd) mem', ← up_same, ← es]
      exact q _ (((s1.trans s2).trans s3).trans s4)
    · have r := q H1 s1
      rw [show setB H v = false by unfold setB; rw [show rowB H v = false by simpa using e]; rfl] at r
      exact r
end
/-! D10 -/

/-- a comprehension over range whose turns draw from the jar -/
theorem lc_draw {j D : Addr} {n : Nat} {g : TG} {tt : TT} {te : TE} {vs : List Nat} {σ : L2.St} {H1 : Hp} {Qd : Hp → Prop} (R : V → Prop) (nD : H1 D = none) (hn : n ≤ 1000) (hj : Jar H1 j)
    (hs : ∀ (i : Nat) H (N1 : VK) (N0 : Hp → Prop), i < n → Keep j H1 H → Jar H j → (∀ H' y, Keep j H H' → Jar H' j → R y → N1 y H') →
      g (.int (0 + i)) (wipe σ vs) H fun σ2 H2 => wipe σ2 vs = wipe σ vs ∧ tt σ2 H2 fun b H3 => if b = true then te σ2 H3 N1 else N0 H3)
    (hd : ∀ H ys, Keep j H1 H → Jar H j → H D = some (.lst ys) → ys.length = n → (∀ y ∈ ys, R y) → Qd H) :
    ∃ W : Nat → Nat → Hp → Prop, (∃ m, W 0 m (upd H1 D (.lst []))) ∧ ∀ i m H, W i m H →
      ((Itr 0 n).stop i H ∧ Qd H) ∨ ((Itr 0 n).go i H ∧ ∃ Nx : Hp → Prop, (∀ H', Nx H' → ∃ m', m' < m ∧ W (i + 1) m' H') ∧ ∀ x H', (Itr 0 n).yld i H x H' → g x (wipe σ vs) H' fun σ2 H2 => wipe σ2 vs = wipe σ vs ∧ tt σ2 H2 fun b H3 =>
        if b = true then te σ2 H3 fun y H4 => ∃ acc, H4 D = some (.lst acc) ∧ acc.length < sizeLine ∧ Nx (upd H4 D (.lst (acc ++ [y]))) else Nx H3) := by
  have jD : j ≠ D := by
    obtain ⟨a, b, c, e, _⟩ := hj
    exact ne_of_none e nD
  have jar_upd : ∀ {H : Hp} {o : HO}, Jar H j → Jar (upd H D o) j := by
    rintro H o ⟨a, b, c, e, r⟩
    exact ⟨a, b, c, (upd_ne jD).trans e, r⟩
  refine lc_range (lo := 0) (n := n) (fun i H => Keep j H1 H ∧ Jar H j ∧ ∃ ys, H D = some (.lst ys) ∧ ys.length = i ∧ ∀ y ∈ ys, R y) ?_ ?_ ?_
  · exact ⟨(Keep.refl j H1).new nD _, jar_upd hj, [], upd_same, rfl, fun y m => by cases m⟩
  · rintro i H hi ⟨k1, j1, ys, eD, ly, hy⟩
    refine hs i H _ _ hi k1 j1 fun H' y k2 j2 ry => ?_
    refine ⟨ys, k2 _ _ eD jD.symm, Nat.lt_of_lt_of_le (show ys.length < 1001 by omega) (by decide), ?_, jar_upd j2, ys ++ [y], upd_same, by rw [List.length_append, ly]; rfl, ?_⟩
    · intro b o e n
      rw [upd_ne (ne_of_none e nD)]
      exact (k1.trans k2) b o e n
    · intro z m
      rcases List.mem_append.mp m with m | m
      · exact hy z m
      · rw [List.mem_singleton.mp m]; exact ry
  · rintro H ⟨k1, j1, ys, eD, ly, hy⟩
    exact hd H ys k1 j1 eD ly hy
/-- one small letter -/
def Lt (y : V) : Prop := ∃ c, y = .str (one c) ∧ 97 ≤ c ∧ c ≤ 122
theorem lts_of : ∀ {ys : List V}, (∀ y ∈ ys, Lt y) → ∃ cs : List Nat, ys = (cs.map one).map V.str ∧ ∀ c ∈ cs, 97 ≤ c ∧ c ≤ 122
  | [], _ => ⟨[], rfl, fun c m => by cases m⟩
  | y :: ys, h => by
    obtain ⟨c, rfl, h1, h2⟩ := h y List.mem_cons_self
    obtain ⟨cs, e, g⟩ := lts_of fun z m => h z (List.mem_cons_of_mem _ m)
    refine ⟨c :: cs, by rw [e]; rfl, fun d m => ?_⟩
    rcases List.mem_cons.mp m with q | q
    · rw [q]; exact ⟨h1, h2⟩
    · exact g d q
theorem join_ones : ∀ cs : List Nat, (Txt.join ("" : Str) (cs.map one)) = ⟨cs.toArray⟩ := by
  intro cs
  show Builtin.Str.glued _ _ = _
  rw [StrLaws.glued_eq_join]
  induction cs with
  | nil => rfl
  | cons c cs ih =>
    cases cs with
    | nil => rfl
    | cons d cs =>
      show one c ++ "" ++ Str.join "" ((d :: cs).map one) = _
      rw [ih]
      show (⟨((#[c] : Array Nat) ++ ("" : Str).cps) ++ (d :: cs).toArray⟩ : Str) = _
      have : ("" : Str).cps = #[] := by decide +kernel
      rw [this]
      simp
theorem ones_sum (cs : List Nat) : ((cs.map one).map (·.length)).sum = cs.length := by
  induction cs with
  | nil => rfl
  | cons c cs ih =>
    show (one c).length + ((cs.map one).map (·.length)).sum = cs.length + 1
    rw [ih]
    show 1 + cs.length = cs.length + 1
    omega
/-- a text of small letters -/
def low (n : Nat) (z : Str) : Prop := z.length ≤ n ∧ ∀ c ∈ z.cps.toList, 97 ≤ c ∧ c ≤ 122
def plainT (n : Nat) (z : Str) : Prop := z.length ≤ n ∧ ascS z
theorem low.plain {n : Nat} {z : Str} (h : low n z) : plainT n z := ⟨h.1, fun c m => by have := h.2 c m; omega⟩
theorem plainT.cat {a b : Nat} {x y : Str} (h1 : plainT a x) (h2 : plainT b y) : plainT (a + b) (x ++ y) := by
  refine ⟨?_, fun c m => ?_⟩
  · show (x.cps ++ y.cps).size ≤ _
    rw [Array.size_append]
    exact Nat.add_le_add h1.1 h2.1
  · have m' : c ∈ (x.cps ++ y.cps).toList := m
    rw [Array.toList_append, List.mem_append] at m'
    rcases m' with m' | m'
    · exact h1.2 c m'
    · exact h2.2 c m'
theorem plainT.cut {n : Nat} {z : Str} (h : plainT n z) (lo hi : Option Int) : plainT n (cutS z lo hi) := by
  unfold cutS
  refine ⟨?_, fun c m => ?_⟩
  · show (List.toArray _).size ≤ n
    rw [List.size_toArray, List.length_take, List.length_drop, Array.length_toList]
    have : z.cps.size ≤ n := h.1
    omega
  · have m' : c ∈ (List.toArray ((z.cps.toList.drop (HT.sIx z.length 0 lo)).take (HT.sIx z.length z.length hi - HT.sIx z.length 0 lo))).toList := m
    exact h.2 c (List.mem_of_mem_drop (List.mem_of_mem_take (by simpa using m')))
theorem plainT.rep {n k : Nat} {z : Str} (h : plainT n z) : plainT (k * n) (repS z k) := by
  unfold repS
  refine ⟨?_, fun c m => ?_⟩
  · show (List.toArray _).size ≤ _
    rw [List.size_toArray, List.length_flatten, List.map_replicate, List.sum_replicate_nat, Array.length_toList]
    exact Nat.mul_le_mul_left k h.1
  · have m' : c ∈ (List.replicate k z.cps.toList).flatten := by simpa using m
    obtain ⟨l, hl, hc⟩ := List.mem_flatten.mp m'
    rw [(List.mem_replicate.mp hl).2] at hc
    exact h.2 c hc
theorem plainT.mono {m n : Nat} {z : Str} (h : plainT m z) (l : m ≤ n) : plainT n z := ⟨Nat.le_trans h.1 l, h.2⟩
theorem plainT.line {n : Nat} {z : Str} (h : plainT n z) (l : n ≤ 10000) : z.length ≤ sizeLine := Nat.le_trans h.1 (Nat.le_trans l (by decide))
theorem plainT.pl {n : Nat} {z : Str} (h : plainT n z) (l : n ≤ 10000) {H : Hp} : Pl H (.str z) := .str z (Nat.le_trans h.1 l) h.2
theorem low_ones {cs : List Nat} {n : Nat} (l : cs.length ≤ n) (h : ∀ c ∈ cs, 97 ≤ c ∧ c ≤ 122) : low n ⟨cs.toArray⟩ := ⟨by show cs.toArray.size ≤ n; rw [List.size_toArray]; exact l, fun c m => h c (by simpa using m)⟩
def spNums : Sp := fun vs H Q _ => ∃ (j : Addr) (c : Int), vs = [.ref j, .int c] ∧ Jar H j ∧ ∀ H' l xs, Keep j H H' → Jar H' j → H l = none → H' l = some (.lst xs) → xs.length ≤ 100 → (∀ x ∈ xs, ∃ i, x = .int i) → Q (.ref l) H'
theorem pow30 : CPowB 10 30 := ⟨by decide, by decide +kernel⟩
theorem mul90 : CMulW ((10 : Int) ^ (60 : Int).toNat) ((10 : Int) ^ (30 : Int).toNat) := by unfold CMulW; decide +kernel
theorem pos90 : (0 : Int) < (10 : Int) ^ (60 : Int).toNat * (10 : Int) ^ (30 : Int).toNat := by decide +kernel
section
variable {P : Program} {w : World} {K : PySem.W.Frag} {mg : Str → Option Value} {base : Heap}
theorem ok_numbers (T : Tx K mg) : FnOk P w K mg base CX0 2 T.a_l_numbers T.d_l_numbers ["jar", "cell"] spNums := by
  have G_l_sip : FnOk P w K mg base CX0 1 T.a_l_sip T.d_l_sip ["jar", "total"] spSip := ok_sip T
  refine T.F_l_numbers.ok sc_l_numbers (fun vs H Q E h => ?_) (fun cdv A outer s H vs Q E hr h => ?_)
  · obtain ⟨j, c, rfl, _⟩ := h
    rfl
  · obtain ⟨j, c, rfl, hj, q⟩ := h
    refine ⟨_, (pss_cons (ps_par (i := 2) (j := 3) (by rfl) sc_l_numbers.nd rfl rfl (by decide) rfl rfl (pa_cons (pe_op op_mod (pe_callTy call_int1 (by rfl) T.n_int (by decide +kernel) (pa_cons (pv 1) pa_nil)) (pe_op op_mulW (pe_op op_powB pe_int pe_int) (pe_op op_powB pe_int pe_int))) (pa_cons (pe_op op_sub (pe_op op_add (pe_op op_powB pe_int pe_int) (pe_call G_l_sip (hr.mono (by decide)) (by rfl) T.g_l_sip T.F_l_sip.kp T.b_l_sip .nil pass0 (pa_cons (pv 0) (pa_cons pe_int pa_nil)))) pe_int) pa_nil)) (by rfl))
      (pss_one (ps_ret (pe_lst (pa_cons (pv 2) (pa_cons (pe_op op_sub pe_int (pv 2)) (pa_cons (pv 3) (pa_cons (pe_op op_sub pe_int (pv 3)) (pa_cons (pe_op op_powB pe_int pe_int) (pa_cons (pe_op op_sub pe_int (pe_op op_powB pe_int pe_int)) (pa_cons (pe_op op_sub (pe_op op_powB pe_int pe_int) pe_int) (pa_cons (pe_op op_sub pe_int (pe_op op_powB pe_int pe_int)) (pa_cons pe_int (pa_cons (pe_op op_sub pe_int pe_int) pa_nil)))))))))))))), ?_⟩
    refine ⟨_, rfl, .inl ⟨_, rfl, _, _, rfl, rfl, pow60, _, _, rfl, rfl, pow30, _, _, rfl, rfl, mul90, _, _, rfl, rfl, pos90, _, _, rfl, rfl, pow60, _, rfl, j, 5, rfl, hj, by decide, by decide, fun H' v k hj' v0 v1 => ?_⟩⟩
    refine ⟨_, _, rfl, rfl, _, _, rfl, rfl, _, _, rfl, _, rfl, _, rfl, _, _, rfl, rfl, _, rfl, _, rfl, _, _, rfl, rfl, _, _, rfl, rfl, pow60, _, _, rfl, rfl, pow60, _, _, rfl, rfl, _, _, rfl, rfl, pow60, _, _, rfl, rfl, _, _, rfl, rfl, pow60, _, _, rfl, rfl, _, _, rfl, rfl, (by show 10 ≤ sizeLine; decide), fun L nL => ?_⟩
    have hL : H L = none := by
      cases e : H L with
      | none => rfl
      | some o =>
        by_cases n : L = j
        · subst n
          obtain ⟨a, b, c, e2, _⟩ := hj'
          rw [e2] at nL
          cases nL
        · rw [k _ _ e n] at nL
          cases nL
    have jL : j ≠ L := by
      obtain ⟨a, b, c, e2, _⟩ := hj'
      exact ne_of_none e2 nL
    refine q _ L _ (k.new nL _) ?_ hL upd_same (by show 10 ≤ 100; decide) ?_
    · obtain ⟨a, b, c, e2, r⟩ := hj'
      exact ⟨a, b, c, (upd_ne jL).trans e2, r⟩
    · intro x m
      simp only [List.mem_cons, List.not_mem_nil, or_false] at m
      rcases m with rfl | rfl | rfl | rfl | rfl | rfl | rfl | rfl | rfl | rfl <;> exact ⟨_, rfl⟩
end
/-! D11 -/

theorem Jar.upd {H : Hp} {j p : Addr} {o : HO} (h : Jar H j) (n : j ≠ p) : Jar (L2.upd H p o) j := by
  obtain ⟨a, b, c, e, r⟩ := h
  exact ⟨a, b, c, (upd_ne n).trans e, r⟩
theorem Jar.ne {H : Hp} {j p : Addr} (h : Jar H j) (n : H p = none) : j ≠ p := by
  obtain ⟨a, b, c, e, _⟩ := h
  exact ne_of_none e n
/-- what is new behind a Keep was new ahead of it -/
theorem Keep.free {j p : Addr} {H H' : Hp} (k : Keep j H H') (n : H' p = none) (jp : j ≠ p) : H p = none := by
  cases e : H p with
  | none => rfl
  | some o =>
    have := k _ _ e jp.symm
    rw [n] at this
    cases this
theorem cut_take (xs : List V) (m : Int) (h : 0 ≤ m) (l : m ≤ xs.length) : cutV xs none (some m) = xs.take m.toNat := by
  unfold cutV
  obtain ⟨k, rfl⟩ : ∃ k : Nat, m = (k : Int) := ⟨m.toNat, by omega⟩
  rw [HT.sIx_none, HT.sIx_nat]
  have : min k xs.length = k := by omega
  rw [this]
  show (List.drop 0 xs).take (k - 0) = xs.take k
  rfl
theorem signs_lt {ys : List V} (pm : ys.Perm (signsV "abcdefghijklmnopqrstuvwxyz")) : ∀ y ∈ ys, Lt y := by
  intro y m
  have m' := pm.mem_iff.mp m
  obtain ⟨c, hc, rfl⟩ := List.mem_map.mp m'
  have := letters_in c
  rw [decide_eq_true hc] at this
  have b : isLow c = true := this.symm
  unfold isLow at b
  simp only [Bool.and_eq_true, decide_eq_true_eq] at b
  exact ⟨c, rfl, b.1, b.2⟩
theorem one_plain {c : Nat} (h : c ≤ 122) : plainT 1 (one c) := ⟨Nat.le_refl 1, fun d m => by
  have : d = c := by simpa [one] using m
  omega⟩
def spMany : Sp := fun vs H Q _ => ∃ (j : Addr) (m : Int), vs = [.ref j, .int m] ∧ Jar H j ∧ 0 ≤ m ∧ m ≤ 26 ∧ ∀ H' l (zs : List Str), Keep j H H' → Jar H' j → H l = none → H' l = some (.lst (zs.map V.str)) → (zs.length : Int) = m → (∀ z ∈ zs, plainT 30 z) → Q (.ref l) H'
section
variable {P : Program} {w : World} {K : PySem.W.Frag} {mg : Str → Option Value} {base : Heap}
theorem ok_many (T : Tx K mg) : FnOk P w K mg base CX0 3 T.a_l_many_names T.d_l_many_names ["jar", "much"] spMany := by
  have G_l_sip : FnOk P w K mg base CX0 1 T.a_l_sip T.d_l_sip ["jar", "total"] spSip := ok_sip T
  have G_l_letter : FnOk P w K mg base CX0 2 T.a_l_letter T.d_l_letter ["jar"] spLetter := ok_letter T
  have G_l_mixed : FnOk P w K mg base CX0 2 T.a_l_mixed T.d_l_mixed ["jar", "items"] spMixed := ok_mixed T
  refine T.F_l_many_names.ok sc_l_many_names (fun vs H Q E h => ?_) (fun cdv A outer s H vs Q E hr h => ?_)
  · obtain ⟨j, m, rfl, _⟩ := h
    rfl
  · obtain ⟨j, m, rfl, hj, m0, m1, q⟩ := h
    refine ⟨_, (pss_cons (ps_par3 (i := 2) (j := 3) (l := 4) (by rfl) sc_l_many_names.nd rfl rfl rfl (by decide) (by decide) (by decide) rfl rfl rfl (pa_cons (pe_joinK K pe_str (pe_lc (own := [("at", 7)]) (g := gName 7) rfl sc_l_many_names.nd (pi_range1 (by rfl) T.n_range (pa_cons (pe_call G_l_sip (hr.mono (by decide)) (by rfl) T.g_l_sip T.F_l_sip.kp T.b_l_sip .nil pass0 (pa_cons (pv 0) (pa_cons pe_int pa_nil))) pa_nil)) (blkOk_by (own := [("at", 7)]) (N := ["jar", "much", "body", "lot", "found", "spot", "sign", "at"]) (sc := defScope s_l_many_names) (by decide +kernel)) (fun _ _ _ _ _ => (pg_name (i := 7) sc_l_many_names.nd rfl (Or.inl rfl))) (fun _ _ _ _ _ => pts_nil) (fun _ _ _ _ _ => (pe_call G_l_letter (hr.mono (by decide)) (by rfl) T.g_l_letter T.F_l_letter.kp T.b_l_letter .nil pass0 (pa_cons (pv 0) pa_nil))))) (pa_cons (pe_call G_l_sip (hr.mono (by decide)) (by rfl) T.g_l_sip T.F_l_sip.kp T.b_l_sip .nil pass0 (pa_cons (pv 0) (pa_cons pe_int pa_nil))) (pa_cons (pe_lst pa_nil) pa_nil))) (by rfl))
      (pss_cons (ps_set (i := 5) sc_l_many_names.nd rfl (Or.inl rfl) (pe_call G_l_sip (hr.mono (by decide)) (by rfl) T.g_l_sip T.F_l_sip.kp T.b_l_sip .nil pass0 (pa_cons (pv 0) (pa_cons (pe_op op_add (pe_callB call_len_str (by rfl) T.n_len (by decide +kernel) (pa_cons (pv 2) pa_nil)) pe_int) pa_nil))))
      (pss_cons (ps_for PassesOwn.never rfl (pi_list (pe_slice (sl_listK K) (pe_call G_l_mixed (hr.mono (by decide)) (by rfl) T.g_l_mixed T.F_l_mixed.kp T.b_l_mixed .nil pass0 (pa_cons (pv 0) (pa_cons pe_str pa_nil))) po_none (po_some (pv 1)))) (pg_name (i := 6) sc_l_many_names.nd rfl (Or.inl rfl))
      (pss_one (ps_if (pt_cmpR op_eq (pv 3) pe_int (nomark _))
      (pss_one (ps_expr (pe_bmK K PySem.F.plainAttrs_list PySem.F.slot_list_append PySem.F.type_list_append mt_append (pv 4) (pa_cons (pe_op op_add_str (pe_op op_add_str (pe_slice sl_str (pv 2) po_none (po_some (pv 5))) (pv 6)) (pe_slice sl_str (pv 2) (po_some (pv 5)) po_none)) pa_nil))))
      (pss_one (ps_if (pt_cmpR op_eq (pv 3) pe_int (nomark _))
      (pss_one (ps_expr (pe_bmK K PySem.F.plainAttrs_list PySem.F.slot_list_append PySem.F.type_list_append mt_append (pv 4) (pa_cons (pe_op op_add_str (pv 6) (pe_slice sl_str (pv 2) po_none (po_some (pe_call G_l_sip (hr.mono (by decide)) (by rfl) T.g_l_sip T.F_l_sip.kp T.b_l_sip .nil pass0 (pa_cons (pv 0) (pa_cons (pe_op op_add (pe_callB call_len_str (by rfl) T.n_len (by decide +kernel) (pa_cons (pv 2) pa_nil)) pe_int) pa_nil)))))) pa_nil))))
      (pss_one (ps_expr (pe_bmK K PySem.F.plainAttrs_list PySem.F.slot_list_append PySem.F.type_list_append mt_append (pv 4) (pa_cons (pe_slice sl_str (pe_op op_mul_str (pv 6) pe_int) po_none (po_some (pe_op op_add pe_int (pe_call G_l_sip (hr.mono (by decide)) (by rfl) T.g_l_sip T.F_l_sip.kp T.b_l_sip .nil pass0 (pa_cons (pv 0) (pa_cons pe_int pa_nil)))))) pa_nil)))))))))
      (pss_one (ps_ret (pv 4)))))), ?_⟩
    -- body
    refine ⟨⟨_, rfl⟩, _, rfl, j, 8, rfl, hj, by decide, by decide, fun H1 v k1 j1 v0 v1 => ⟨v, rfl, by omega, by omega, fun D nD => ?_⟩⟩
    refine lc_draw Lt nD (by omega) j1 ?_ ?_
    · intro i H2 N1 N0 hi k2 j2 n1
      exact ⟨rfl, _, rfl, j, rfl, j2, fun H3 c k3 j3 c1 c2 => n1 H3 _ k3 j3 ⟨c, rfl, c1, c2⟩⟩
    intro H2 ys k2 j2 eD ly all
    obtain ⟨cs, ecs, gcs⟩ := lts_of all
    rw [ecs] at eD
    have lcs : cs.length ≤ 8 := by
      have := congrArg List.length ecs
      rw [List.length_map, List.length_map] at this
      omega
    have lb : low 8 ⟨cs.toArray⟩ := low_ones lcs gcs
    refine ⟨"", D, cs.map one, rfl, rfl, .inl (sq_new eD), by rw [ones_sum, List.length_map]; show cs.length + cs.length * 0 ≤ 16777216; omega, ?_⟩
    rw [join_ones]
    generalize hb : (⟨cs.toArray⟩ : Str) = body at lb
    have pb := lb.plain
    -- lot, found
    refine ⟨_, rfl, j, 3, rfl, j2, by decide, by decide, fun H3 lot k3 j3 l0 l1 => ⟨by decide, fun F nF => ⟨_, _, _, rfl, ?_⟩⟩⟩
    have jF := j3.ne nF
    have j4 : Jar (upd H3 F (.lst [])) j := j3.upd jF
    have k04 : Keep j H (upd H3 F (.lst [])) := (((k1.trans k2).trans k3)).new nF _
    have fF : H F = none := ((k1.trans k2).trans k3).free nF jF
    generalize h4 : upd H3 F (.lst []) = H4 at j4 k04
    have eF : H4 F = some (.lst []) := by rw [← h4]; exact upd_same
    -- spot
    have lenb : (body.length : Int) ≤ 8 := by have := lb.1; omega
    refine ⟨_, rfl, _, rfl, body, rfl, pb.line (by decide), _, _, rfl, rfl, j, _, rfl, j4, by omega, by omega, fun H5 spot k5 j5 s0 s1 => ?_⟩
    -- the loop
    refine ⟨_, rfl, j, _, rfl, j5, by rw [letters_len]; decide, fun H6 r ys6 k6 j6 nr er pm => ⟨_, rfl, m, rfl, r, ys6, rfl, sq_new er, fun p np => ?_⟩⟩
    have len6 : ys6.length = 26 := by
      rw [pm.length_eq]
      unfold signsV
      rw [List.length_map, Array.length_toList]
      exact letters_len
    rw [cut_take ys6 m m0 (by omega)]
    have jp := j6.ne np
    have k46 := k5.trans k6
    have eF6 : H6 F = some (.lst []) := k46 _ _ eF jF.symm
    have Fp : F ≠ p := ne_of_none eF6 np
    have j7 : Jar (upd H6 p (.lst (ys6.take m.toNat))) j := j6.upd jp
    have fp : H p = none := (k04.trans k46).free np jp
    have k07 : Keep j H (upd H6 p (.lst (ys6.take m.toNat))) := (k04.trans k46).new np _
    generalize h7 : upd H6 p (.lst (ys6.take m.toNat)) = H7 at j7 k07
    have ep : H7 p = some (.lst (ys6.take m.toNat)) := by rw [← h7]; exact upd_same
    have eF7 : H7 F = some (.lst []) := by rw [← h7, upd_ne Fp]; exact eF6
    have len7 : (ys6.take m.toNat).length = m.toNat := by rw [List.length_take]; omega
    refine ⟨p, rfl, ⟨_, sq_new ep⟩, ?_⟩
    refine for_it (walk_lstV (xs := ys6.take m.toNat)) (fun i σ H8 => ∃ (sg : Option V) (zs : List Str), σ = [some (.ref j), some (.int m), some (.str body), some (.int lot), some (.ref F), some (.int spot), sg, none] ∧
      Keep j H H8 ∧ Jar H8 j ∧ H8 p = some (.lst (ys6.take m.toNat)) ∧ H8 F = some (.lst (zs.map V.str)) ∧ zs.length = i ∧ ∀ z ∈ zs, plainT 30 z) ?_ ?_ ?_ ?_
    · exact ⟨none, [], rfl, k07, j7, ep, eF7, rfl, fun z h => by cases h⟩
    · rintro i σ H8 _ ⟨sg, zs, _, _, _, e8, _⟩
      exact sq_new e8
    · rintro i x σ H8 H9 hi ⟨sg, zs, rfl, k8, j8, p8, F8, lz, az⟩ ⟨s9, ex⟩
      have mem : x ∈ ys6 := List.mem_of_mem_take (List.mem_of_getElem? ex)
      obtain ⟨c, rfl, c1, c2⟩ := signs_lt pm x mem
      have pc := one_plain c2
      have k9 : Keep j H H9 := fun b o e n => s9 _ _ (k8 b o e n)
      have j9 : Jar H9 j := by
        obtain ⟨a, b, d, e, r⟩ := j8
        exact ⟨a, b, d, s9 _ _ e, r⟩
      have p9 := s9 _ _ p8
      have F9 := s9 _ _ F8
      have lz9 : (zs.map V.str).length < sizeLine := Nat.lt_of_lt_of_le (show (zs.map V.str).length < 1000 by rw [List.length_map]; omega) (by decide)
      -- what is left when the text z has been made, at the heap H10
      have next : ∀ (H10 : Hp) (z : Str), Keep j H H10 → Jar H10 j → H10 p = some (.lst (ys6.take m.toNat)) → H10 F = some (.lst (zs.map V.str)) → plainT 30 z →
          ∃ (sg : Option V) (zs' : List Str), [some (V.ref j), some (V.int m), some (V.str body), some (V.int lot), some (V.ref F), some (V.int spot), some (V.str (one c)), none] = [some (.ref j), some (.int m), some (.str body), some (.int lot), some (.ref F), some (.int spot), sg, none] ∧
      Keep j H (upd H10 F (.lst (zs.map V.str ++ [.str z]))) ∧ Jar (upd H10 F (.lst (zs.map V.str ++ [.str z]))) j ∧ (upd H10 F (.lst (zs.map V.str ++ [.str z]))) p = some (.lst (ys6.take m.toNat)) ∧ (upd H10 F (.lst (zs.map V.str ++ [.str z]))) F = some (.lst (zs'.map V.str)) ∧ zs'.length = i + 1 ∧ ∀ z ∈ zs', plainT 30 z := by
        intro H10 z k10 j10 p10 F10 pz
        refine ⟨_, zs ++ [z], rfl, ?_, j10.upd jF, (upd_ne Fp.symm).trans p10, ?_, by rw [List.length_append, lz]; rfl, ?_⟩
        · intro b o e n
          rw [upd_ne (ne_of_none e fF)]
          exact k10 b o e n
        · rw [upd_same, List.map_append]
          rfl
        · intro y h
          rcases List.mem_append.mp h with h | h
          · exact az y h
          · rw [List.mem_singleton.mp h]; exact pz
      have sb := pb.line (by decide)
      refine ⟨_, rfl, rfl, _, rfl, ite2 (fun e => ?_) (fun e => ?_)⟩
      · have t1 := pb.cut none (some spot)
        have t2 := t1.cat pc
        have t3 := pb.cut (some spot) none
        have t4 := t2.cat t3
        refine ⟨_, rfl, .inl ⟨rfl, _, sq_new F9⟩, _, rfl, _, rfl, _, rfl, body, rfl, sb, _, rfl, _, _, rfl, rfl, ?_, _, rfl, _, rfl, _, rfl, body, rfl, sb, _, _, rfl, rfl, ?_, F, _, _, rfl, rfl, F9, lz9, ?_⟩
        · exact Nat.le_trans (Nat.add_le_add t1.1 pc.1) (by decide)
        · exact Nat.le_trans (Nat.add_le_add t2.1 t3.1) (by decide)
        · exact next H9 _ k9 j9 p9 F9 (t4.mono (by decide))
      · refine ⟨_, rfl, rfl, _, rfl, ite2 (fun e' => ?_) (fun e' => ?_)⟩
        · refine ⟨_, rfl, .inl ⟨rfl, _, sq_new F9⟩, _, rfl, _, rfl, _, rfl, _, rfl, body, rfl, sb, _, _, rfl, rfl, j, _, rfl, j9, by omega, by omega, fun H10 v k10 j10 v0 v1 => ?_⟩
          have t1 := pb.cut none (some v)
          have F10 := k10 _ _ F9 jF.symm
          refine ⟨v, rfl, body, rfl, sb, _, _, rfl, rfl, ?_, F, _, _, rfl, rfl, F10, lz9, ?_⟩
          · exact Nat.le_trans (Nat.add_le_add pc.1 t1.1) (by decide)
          · exact next H10 _ (k9.trans k10) j10 (k10 _ _ p9 jp.symm) F10 ((pc.cat t1).mono (by decide))
        · refine ⟨_, rfl, .inl ⟨rfl, _, sq_new F9⟩, _, rfl, _, _, rfl, rfl, by decide, by decide, by show 1 ≤ 1000; decide, _, rfl, j, _, rfl, j9, by decide, by decide, fun H10 v k10 j10 v0 v1 => ?_⟩
          have t1 := (pc.rep (k := (8 : Int).toNat)).cut none (some (1 + v))
          have F10 := k10 _ _ F9 jF.symm
          refine ⟨_, _, rfl, rfl, _, rfl, _, rfl, (pc.rep (k := (8 : Int).toNat)).line (by decide), F, _, _, rfl, rfl, F10, lz9, ?_⟩
          exact next H10 _ (k9.trans k10) j10 (k10 _ _ p9 jp.symm) F10 (t1.mono (by decide))
    · rintro σ H8 ⟨sg, zs, rfl, k8, j8, p8, F8, lz, az⟩
      refine ⟨_, rfl, q H8 F zs k8 j8 fF F8 ?_ az⟩
      rw [lz, len7]
      omega
end
/-! D12 -/

def spTexts : Sp := fun vs H Q _ => ∃ (j : Addr), vs = [.ref j] ∧ Jar H j ∧ ∀ H' l (zs : List Str), Keep j H H' → Jar H' j → H l = none → H' l = some (.lst (zs.map V.str)) → zs.length ≤ 12 → (∀ z ∈ zs, plainT 30 z) → Q (.ref l) H'
section
variable {P : Program} {w : World} {K : PySem.W.Frag} {mg : Str → Option Value} {base : Heap}
theorem ok_texts (T : Tx K mg) : FnOk P w K mg base CX0 3 T.a_l_texts T.d_l_texts ["jar"] spTexts := by
  have G_l_sip : FnOk P w K mg base CX0 1 T.a_l_sip T.d_l_sip ["jar", "total"] spSip := ok_sip T
  have G_l_letter : FnOk P w K mg base CX0 2 T.a_l_letter T.d_l_letter ["jar"] spLetter := ok_letter T
  have G_l_which : FnOk P w K mg base CX0 2 T.a_l_which T.d_l_which ["jar", "items"] spWhich := ok_which T
  refine T.F_l_texts.ok sc_l_texts (fun vs H Q E h => ?_) (fun cdv A outer s H vs Q E hr h => ?_)
  · obtain ⟨j, rfl, _⟩ := h
    rfl
  · obtain ⟨j, rfl, hj, q⟩ := h
    refine ⟨_, (pss_cons (ps_set (i := 1) sc_l_texts.nd rfl (Or.inl rfl) (pe_lst pa_nil))
      (pss_cons (ps_for PassesOwn.never rfl (pi_range1 (by rfl) T.n_range (pa_cons pe_int pa_nil)) (pg_name (i := 2) sc_l_texts.nd rfl (Or.inl rfl))
      (pss_cons (ps_set (i := 3) sc_l_texts.nd rfl (Or.inl rfl) (pe_joinK K pe_str (pe_lc (own := [("at", 6)]) (g := gName 6) rfl sc_l_texts.nd (pi_range1 (by rfl) T.n_range (pa_cons (pe_call G_l_sip (hr.mono (by decide)) (by rfl) T.g_l_sip T.F_l_sip.kp T.b_l_sip .nil pass0 (pa_cons (pv 0) (pa_cons pe_int pa_nil))) pa_nil)) (blkOk_by (own := [("at", 6)]) (N := ["jar", "found", "turn", "text", "spot", "odd", "at"]) (sc := defScope s_l_texts) (by decide +kernel)) (fun _ _ _ _ _ => (pg_name (i := 6) sc_l_texts.nd rfl (Or.inl rfl))) (fun _ _ _ _ _ => pts_nil) (fun _ _ _ _ _ => (pe_call G_l_letter (hr.mono (by decide)) (by rfl) T.g_l_letter T.F_l_letter.kp T.b_l_letter .nil pass0 (pa_cons (pv 0) pa_nil))))))
      (pss_cons (ps_set (i := 4) sc_l_texts.nd rfl (Or.inl rfl) (pe_call G_l_sip (hr.mono (by decide)) (by rfl) T.g_l_sip T.F_l_sip.kp T.b_l_sip .nil pass0 (pa_cons (pv 0) (pa_cons (pe_op op_add (pe_callB call_len_str (by rfl) T.n_len (by decide +kernel) (pa_cons (pv 3) pa_nil)) pe_int) pa_nil))))
      (pss_cons (ps_set (i := 5) sc_l_texts.nd rfl (Or.inl rfl) (pe_call G_l_which (hr.mono (by decide)) (by rfl) T.g_l_which T.F_l_which.kp T.b_l_which .nil pass0 (pa_cons (pv 0) (pa_cons (pe_lst (pa_cons pe_str (pa_cons pe_str (pa_cons pe_str (pa_cons pe_str (pa_cons pe_str (pa_cons pe_str (pa_cons pe_str (pa_cons pe_str (pa_cons pe_str (pa_cons pe_str (pa_cons pe_str (pa_cons pe_str pa_nil))))))))))))) pa_nil))))
      (pss_one (ps_set (i := 1) sc_l_texts.nd rfl (Or.inl rfl) (pe_op op_cat (pv 1) (pe_lst (pa_cons (pv 3) (pa_cons (pe_op op_add_str (pe_op op_add_str (pe_slice sl_str (pv 3) po_none (po_some (pv 4))) (pv 5)) (pe_slice sl_str (pv 3) (po_some (pv 4)) po_none)) (pa_cons (pe_op op_add_str (pe_op op_add_str (pe_slice sl_str (pv 3) po_none (po_some (pv 4))) (pv 5)) (pe_slice sl_str (pv 3) (po_some (pe_op op_add (pv 4) pe_int)) po_none)) pa_nil)))))))))))
      (pss_one (ps_ret (pv 1))))), ?_⟩
    refine ⟨by decide, fun F nF => ?_⟩
    refine ⟨4, rfl, by decide, by decide, for_range (lo := 0) (n := 4) (fun i σ H8 => ∃ (F : Addr) (tn tx sp od : Option V) (zs : List Str), σ = [some (.ref j), some (.ref F), tn, tx, sp, od, none] ∧
      Keep j H H8 ∧ Jar H8 j ∧ H8 F = some (.lst (zs.map V.str)) ∧ H F = none ∧ j ≠ F ∧ zs.length = 3 * i ∧ ∀ z ∈ zs, plainT 30 z) ?_ ?_ ?_⟩
    · exact ⟨F, none, none, none, none, [], rfl, (Keep.refl j H).new nF _, hj.upd (hj.ne nF), upd_same, nF, hj.ne nF, rfl, fun z h => by cases h⟩
    · rintro i σ H0 hi ⟨F, tn, tx, sp, od, zs, rfl, k0, j0, e0, fF, jF, lz, az⟩
      -- text
      refine ⟨⟨_, rfl⟩, _, rfl, j, 11, rfl, j0, by decide, by decide, fun H1 v k1 j1 v0 v1 => ⟨v, rfl, by omega, by omega, fun D nD => ?_⟩⟩
      refine lc_draw Lt nD (by omega) j1 ?_ ?_
      · intro i H2 N1 N0 hi k2 j2 n1
        exact ⟨rfl, _, rfl, j, rfl, j2, fun H3 c k3 j3 c1 c2 => n1 H3 _ k3 j3 ⟨c, rfl, c1, c2⟩⟩
      intro H2 ys k2 j2 eD ly all
      obtain ⟨cs, ecs, gcs⟩ := lts_of all
      rw [ecs] at eD
      have lcs : cs.length ≤ 10 := by
        have := congrArg List.length ecs
        rw [List.length_map, List.length_map] at this
        omega
      have lb : low 10 ⟨cs.toArray⟩ := low_ones lcs gcs
      refine ⟨"", D, cs.map one, rfl, rfl, .inl (sq_new eD), by rw [ones_sum, List.length_map]; show cs.length + cs.length * 0 ≤ 16777216; omega, ?_⟩
      rw [join_ones]
      generalize hb : (⟨cs.toArray⟩ : Str) = text at lb
      have pb := lb.plain
      have sb := pb.line (by decide)
      -- spot
      have lenb : (text.length : Int) ≤ 10 := by have := lb.1; omega
      refine ⟨_, rfl, _, rfl, text, rfl, sb, _, _, rfl, rfl, j, _, rfl, j2, by omega, by omega, fun H3 spot k3 j3 s0 s1 => ?_⟩
      -- odd
      refine ⟨_, rfl, (by show 12 ≤ sizeLine; decide), fun L nL => ?_⟩
      have jL := j3.ne nL
      refine ⟨j, L, _, rfl, j3.upd jL, upd_same, jL.symm, (by show 0 < 12; decide), (by show 12 ≤ 100000; decide), fun H5 odd k5 j5 mo => ?_⟩
      have po : ∃ o, odd = .str o ∧ plainT 1 o := by
        simp only [List.mem_cons, List.not_mem_nil, or_false] at mo
        have key : ∀ o : Str, o.cps.toList.all (· < 128) = true → o.length ≤ 1 → plainT 1 o := fun o h l => ⟨l, fun c m => by
          have := List.all_eq_true.mp h c m
          simpa using this⟩
        rcases mo with rfl | rfl | rfl | rfl | rfl | rfl | rfl | rfl | rfl | rfl | rfl | rfl <;> exact ⟨_, rfl, key _ (by decide +kernel) (by decide +kernel)⟩
      obtain ⟨o, rfl, po⟩ := po
      have k05 : Keep j H0 H5 := (((k1.trans k2).trans k3).new nL _).trans k5
      have e5 : H5 F = some (.lst (zs.map V.str)) := k05 _ _ e0 jF.symm
      have t1 := pb.cut none (some spot)
      have t2 := t1.cat po
      have t3 := pb.cut (some spot) none
      have t4 := t2.cat t3
      have t5 := pb.cut (some (spot + 1)) none
      have t6 := t2.cat t5
      have l2 : (cutS text none (some spot)).length + o.length ≤ sizeLine := Nat.le_trans (Nat.add_le_add t1.1 po.1) (by decide)
      refine ⟨_, rfl, _, rfl, _, rfl, _, rfl, _, rfl, text, rfl, sb, _, rfl, _, _, rfl, rfl, l2, _, rfl, _, rfl, _, rfl, text, rfl, sb, _, _, rfl, rfl, ?_,
        _, rfl, _, rfl, _, rfl, text, rfl, sb, _, rfl, _, _, rfl, rfl, l2, _, rfl, _, rfl, _, _, rfl, rfl, _, rfl, text, rfl, sb, _, _, rfl, rfl, ?_, (by show 3 ≤ sizeLine; decide), fun M nM => ?_⟩
      · exact Nat.le_trans (Nat.add_le_add t2.1 t3.1) (by decide)
      · exact Nat.le_trans (Nat.add_le_add t2.1 t5.1) (by decide)
      have jM := j5.ne nM
      have FM : F ≠ M := ne_of_none e5 nM
      have e6 : (upd H5 M (.lst [.str text, .str (cutS text none (some spot) ++ o ++ cutS text (some spot) none), .str (cutS text none (some spot) ++ o ++ cutS text (some (spot + 1)) none)])) F = some (.lst (zs.map V.str)) := (upd_ne FM).trans e5
      refine ⟨F, M, _, _, rfl, rfl, e6, upd_same, Nat.le_trans (show (zs.map V.str).length + 3 ≤ 100 by rw [List.length_map]; omega) (by decide), fun N nN => ?_⟩
      have k6 := (k0.trans k05).new nM (.lst [.str text, .str (cutS text none (some spot) ++ o ++ cutS text (some spot) none), .str (cutS text none (some spot) ++ o ++ cutS text (some (spot + 1)) none)])
      have j6 := j5.upd (o := .lst [.str text, .str (cutS text none (some spot) ++ o ++ cutS text (some spot) none), .str (cutS text none (some spot) ++ o ++ cutS text (some (spot + 1)) none)]) jM
      have jN := j6.ne nN
      refine ⟨N, _, _, _, _, zs ++ [text, cutS text none (some spot) ++ o ++ cutS text (some spot) none, cutS text none (some spot) ++ o ++ cutS text (some (spot + 1)) none], rfl, k6.new nN _, j6.upd jN, ?_, k6.free nN jN, jN, by rw [List.length_append, lz]; show 3 * i + 3 = 3 * (i + 1); omega, ?_⟩
      · rw [upd_same, List.map_append]
        rfl
      · intro y h
        rcases List.mem_append.mp h with h | h
        · exact az y h
        · simp only [List.mem_cons, List.not_mem_nil, or_false] at h
          rcases h with rfl | rfl | rfl
          · exact pb.mono (by decide)
          · exact t4.mono (by decide)
          · exact t6.mono (by decide)
    · rintro σ H8 ⟨F, tn, tx, sp, od, zs, rfl, k8, j8, e8, fF, jF, lz, az⟩
      exact ⟨_, rfl, q H8 F zs k8 j8 fF e8 (by omega) az⟩
end
/-! D13 -/

/-- the heap without what stands at j -/
def hide (j : Addr) (H : Hp) : Hp := fun b => if b = j then none else H b
theorem hideS {j : Addr} {H H' : Hp} (k : Keep j H H') : Same (hide j H) (hide j H') := fun b o e => by
  unfold hide at e ⊢
  by_cases q : b = j
  · rw [if_pos q] at e
    cases e
  · rw [if_neg q] at e ⊢
    exact k b o e q
theorem unhide {j p : Addr} {H : Hp} {o : HO} (e : hide j H p = some o) : H p = some o := by
  unfold hide at e
  by_cases q : p = j
  · rw [if_pos q] at e
    cases e
  · rwa [if_neg q] at e
theorem hide_le (j : Addr) (H : Hp) : Same (hide j H) H := fun _ _ e => unhide e
theorem grow {j p : Addr} {H Hk : Hp} {o : HO} (k : Keep j H Hk) (jr : Jar Hk j) (n : Hk p = none) :
    ∃ H', H' = upd Hk p o ∧ Same (hide j Hk) (hide j H') ∧ hide j H' p = some o ∧ Keep j H H' ∧ Jar H' j ∧ j ≠ p ∧ H p = none := by
  have jp := jr.ne n
  have k1 : Keep j Hk (upd Hk p o) := (Keep.refl j Hk).new n o
  refine ⟨_, rfl, hideS k1, ?_, k.new n o, jr.upd jp, jp, k.free n jp⟩
  unfold hide
  rw [if_neg jp.symm, upd_same]
def DaN (n : Nat) (H : Hp) (v : V) : Prop := ∃ d, Da H v d ∧ d.depth ≤ n
theorem DaN.mono {n : Nat} {H H' : Hp} {v : V} (s : Same H H') (h : DaN n H v) : DaN n H' v := let ⟨d, a, b⟩ := h; ⟨d, a.mono s, b⟩
theorem DaN.up {m n : Nat} {H : Hp} {v : V} (h : DaN m H v) (l : m ≤ n) : DaN n H v := let ⟨d, a, b⟩ := h; ⟨d, a, Nat.le_trans b l⟩
theorem DaN.txt {n : Nat} {H : Hp} {z : Str} (h : plainT 100 z) : DaN n H (.str z) := ⟨.str z, .str z (Nat.le_trans h.1 (by decide)) h.2, Nat.zero_le _⟩
theorem DaN.tup {n : Nat} {H H' : Hp} {p : Addr} {xs : List V} (s : Same H H') (a : H' p = some (.tup xs)) (l : xs.length ≤ 50) (h : ∀ x ∈ xs, DaN n H x) : DaN (n + 1) H' (.ref p) := by
  obtain ⟨ds, h1, h2, _⟩ := DaAll.of (H := H') (n := n) xs fun x m => (h x m).mono s
  refine ⟨.tuple ds, .tup a l h1, ?_⟩
  simp only [PyData.depth]
  omega
theorem DaN.lst {n : Nat} {H H' : Hp} {p : Addr} {xs : List V} (s : Same H H') (a : H' p = some (.lst xs)) (_l : xs.length ≤ 50) (h : ∀ x ∈ xs, DaN n H x) : DaN (n + 1) H' (.ref p) := by
  obtain ⟨ds, h1, h2, _⟩ := DaAll.of (H := H') (n := n) xs fun x m => (h x m).mono s
  refine ⟨.list ds, .lst a h1, ?_⟩
  simp only [PyData.depth]
  omega
theorem DaN.pl {n : Nat} {H : Hp} {v : V} (h : DaN n H v) (l : n ≤ 10) : Pl H v := let ⟨_, a, b⟩ := h; a.pl (Nat.le_trans b l)
def spTups : Sp := fun vs H Q _ => ∃ (j : Addr), vs = [.ref j] ∧ Jar H j ∧ ∀ H' l xs, Keep j H H' → Jar H' j → H l = none → H' l = some (.lst xs) → xs.length ≤ 40 → (∀ x ∈ xs, Pl (hide j H') x) → Q (.ref l) H'
theorem asc_of {z : Str} {n : Nat} (h : z.cps.toList.all (· < 128) = true) (l : z.length ≤ n) : plainT n z := ⟨l, fun c m => by
  have := List.all_eq_true.mp h c m
  simpa using this⟩
theorem x8 : plainT 8 "xxxxxxxx" := asc_of (by decide +kernel) (by decide +kernel)
theorem b1 : plainT 1 " " := asc_of (by decide +kernel) (by decide +kernel)
theorem e0 : plainT 100 "" := asc_of (by decide +kernel) (by decide +kernel)
theorem cA : plainT 100 "A" := asc_of (by decide +kernel) (by decide +kernel)
section
variable {P : Program} {w : World} {K : PySem.W.Frag} {mg : Str → Option Value} {base : Heap}
theorem ok_tuples (T : Tx K mg) : FnOk P w K mg base CX0 4 T.a_l_tuples T.d_l_tuples ["jar"] spTups := by
  have G_l_many_names : FnOk P w K mg base CX0 3 T.a_l_many_names T.d_l_many_names ["jar", "much"] spMany := ok_many T
  have G_l_which : FnOk P w K mg base CX0 2 T.a_l_which T.d_l_which ["jar", "items"] spWhich := ok_which T
  refine T.F_l_tuples.ok sc_l_tuples (fun vs H Q E h => ?_) (fun cdv A outer s H vs Q E hr h => ?_)
  · obtain ⟨j, rfl, _⟩ := h
    rfl
  · obtain ⟨j, rfl, hj, q⟩ := h
    refine ⟨_, (pss_cons (ps_asg (pe_call G_l_many_names (hr.mono (by decide)) (by rfl) T.g_l_many_names T.F_l_many_names.kp T.b_l_many_names .nil pass0 (pa_cons (pv 0) (pa_cons pe_int pa_nil))) (pg_unl (by rfl) (pgs_cons (pg_name (i := 1) sc_l_tuples.nd rfl (Or.inl rfl)) (pgs_cons (pg_name (i := 2) sc_l_tuples.nd rfl (Or.inl rfl)) (pgs_cons (pg_name (i := 3) sc_l_tuples.nd rfl (Or.inl rfl)) pgs_nil)))))
      (pss_cons (ps_set (i := 4) sc_l_tuples.nd rfl (Or.inl rfl) (pe_lst (pa_cons (pe_tup (pa_cons (pv 1) (pa_cons (pv 2) (pa_cons (pv 3) pa_nil)))) (pa_cons (pe_tup (pa_cons (pv 1) (pa_cons (pv 3) (pa_cons (pv 2) pa_nil)))) (pa_cons (pe_tup (pa_cons (pv 2) (pa_cons (pv 1) (pa_cons (pv 3) pa_nil)))) (pa_cons (pe_tup (pa_cons (pv 2) (pa_cons (pv 3) (pa_cons (pv 1) pa_nil)))) (pa_cons (pe_tup (pa_cons (pv 3) (pa_cons (pv 1) (pa_cons (pv 2) pa_nil)))) (pa_cons (pe_tup (pa_cons (pv 3) (pa_cons (pv 2) (pa_cons (pv 1) pa_nil)))) pa_nil))))))))
      (pss_cons (ps_set (i := 4) sc_l_tuples.nd rfl (Or.inl rfl) (pe_op op_cat (pv 4) (pe_lst (pa_cons (pe_tup (pa_cons (pv 1) (pa_cons (pv 1) pa_nil))) (pa_cons (pe_tup (pa_cons (pv 1) (pa_cons (pv 2) (pa_cons (pv 2) pa_nil)))) (pa_cons (pe_tup (pa_cons (pv 1) pa_nil)) (pa_cons pe_tup0 (pa_cons (pe_tup (pa_cons (pv 1) (pa_cons (pv 2) pa_nil))) (pa_cons (pe_tup (pa_cons (pv 2) (pa_cons (pv 1) pa_nil))) (pa_cons (pe_lst (pa_cons (pv 1) pa_nil)) (pa_cons (pe_lst (pa_cons (pv 1) (pa_cons (pv 2) pa_nil))) (pa_cons (pe_disp (pps_cons (pv 1) (pv 2) pps_nil) (by rfl) (by rfl) (fun z => by cases z) (by decide)) pa_nil))))))))))))
      (pss_cons (ps_set (i := 5) sc_l_tuples.nd rfl (Or.inl rfl) (pe_call G_l_which (hr.mono (by decide)) (by rfl) T.g_l_which T.F_l_which.kp T.b_l_which .nil pass0 (pa_cons (pv 0) (pa_cons (pe_lst (pa_cons pe_str (pa_cons pe_str (pa_cons (pe_op op_add_str (pe_op op_add_str (pv 1) (pv 2)) pe_str) (pa_cons pe_non (pa_cons pe_int (pa_cons pe_bl (pa_cons (pe_tup (pa_cons (pv 1) pa_nil)) (pa_cons (pe_lst (pa_cons (pv 1) pa_nil)) (pa_cons (pe_op op_add_str pe_str (pv 1)) pa_nil)))))))))) pa_nil))))
      (pss_one (ps_ret (pe_op op_cat (pv 4) (pe_lst (pa_cons (pe_tup (pa_cons (pv 5) pa_nil)) (pa_cons (pe_op (op_catTK K) (pe_callTy (call_tupleK K) (by rfl) T.n_tuple (by decide +kernel) (pa_cons (pe_callB (cr_sortedSK K) (by rfl) T.n_sorted (by decide +kernel) (pa_cons (pe_lst (pa_cons (pv 1) (pa_cons (pv 2) pa_nil))) pa_nil)) pa_nil)) (pe_tup (pa_cons (pv 5) pa_nil))) (pa_cons (pe_tup (pa_cons (pv 1) (pa_cons (pe_tup (pa_cons (pv 2) pa_nil)) pa_nil))) (pa_cons (pe_tup (pa_cons pe_tup0 pa_nil)) (pa_cons (pe_tup (pa_cons (pv 1) (pa_cons (pv 2) (pa_cons (pv 1) (pa_cons (pv 2) pa_nil))))) pa_nil))))))))))))), ?_⟩
    refine ⟨_, rfl, j, 3, rfl, hj, by decide, by decide, fun H0 L0 zs k0 j0 _ eL lz az => ?_⟩
    obtain ⟨one, two, last, rfl⟩ : ∃ one two last, zs = [one, two, last] := by
      match zs, lz with
      | [a, b, c], _ => exact ⟨a, b, c, rfl⟩
      | [], h => cases h
      | [_], h => cases h
      | [_, _], h => cases h
      | _ :: _ :: _ :: _ :: r, h => exact absurd h (by simp only [List.length_cons]; omega)
    have h_one := az one (by simp)
    have h_two := az two (by simp)
    have h_last := az last (by simp)
    have d_one : DaN 0 (hide j H0) (.str one) := DaN.txt (h_one.mono (by decide))
    have d_two : DaN 0 (hide j H0) (.str two) := DaN.txt (h_two.mono (by decide))
    have d_last : DaN 0 (hide j H0) (.str last) := DaN.txt (h_last.mono (by decide))
    refine ⟨L0, _, rfl, sq_new eL, rfl, _, _, rfl, _, _, rfl, _, _, rfl, rfl, ?_⟩
    refine ⟨_, rfl, _, rfl, _, rfl, (by show 3 ≤ sizeLine; decide), fun p1 n1 => ?_⟩
    obtain ⟨H1, e1, s1, a1, k1, j1, q1, f1⟩ := grow (o := .tup [.str one, .str two, .str last]) k0 j0 n1
    rw [← e1]
    have t_p1 : DaN 1 (hide j H1) (.ref p1) := DaN.tup (n := 0) s1 a1 (by show 3 ≤ 50; decide) (fun x m => by
      simp only [List.mem_cons, List.not_mem_nil, or_false] at m
      rcases m with rfl | rfl | rfl
      · exact d_one.up (by decide)
      · exact d_two.up (by decide)
      · exact d_last.up (by decide))
    replace d_one := DaN.mono s1 d_one
    replace d_two := DaN.mono s1 d_two
    replace d_last := DaN.mono s1 d_last
    have d_p1 := t_p1
    refine ⟨_, rfl, _, rfl, _, rfl, (by show 3 ≤ sizeLine; decide), fun p2 n2 => ?_⟩
    obtain ⟨H2, e2, s2, a2, k2, j2, q2, f2⟩ := grow (o := .tup [.str one, .str last, .str two]) k1 j1 n2
    rw [← e2]
    have t_p2 : DaN 1 (hide j H2) (.ref p2) := DaN.tup (n := 0) s2 a2 (by show 3 ≤ 50; decide) (fun x m => by
      simp only [List.mem_cons, List.not_mem_nil, or_false] at m
      rcases m with rfl | rfl | rfl
      · exact d_one.up (by decide)
      · exact d_last.up (by decide)
      · exact d_two.up (by decide))
    replace d_one := DaN.mono s2 d_one
    replace d_two := DaN.mono s2 d_two
    replace d_last := DaN.mono s2 d_last
    replace d_p1 := DaN.mono s2 d_p1
    have d_p2 := t_p2
    refine ⟨_, rfl, _, rfl, _, rfl, (by show 3 ≤ sizeLine; decide), fun p3 n3 => ?_⟩
    obtain ⟨H3, e3, s3, a3, k3, j3, q3, f3⟩ := grow (o := .tup [.str two, .str one, .str last]) k2 j2 n3
    rw [← e3]
    have t_p3 : DaN 1 (hide j H3) (.ref p3) := DaN.tup (n := 0) s3 a3 (by show 3 ≤ 50; decide) (fun x m => by
      simp only [List.mem_cons, List.not_mem_nil, or_false] at m
      rcases m with rfl | rfl | rfl
      · exact d_two.up (by decide)
      · exact d_one.up (by decide)
      · exact d_last.up (by decide))
    replace d_one := DaN.mono s3 d_one
    replace d_two := DaN.mono s3 d_two
    replace d_last := DaN.mono s3 d_last
    replace d_p1 := DaN.mono s3 d_p1
    replace d_p2 := DaN.mono s3 d_p2
    have d_p3 := t_p3
    refine ⟨_, rfl, _, rfl, _, rfl, (by show 3 ≤ sizeLine; decide), fun p4 n4 => ?_⟩
    obtain ⟨H4, e4, s4, a4, k4, j4, q4, f4⟩ := grow (o := .tup [.str two, .str last, .str one]) k3 j3 n4
    rw [← e4]
    have t_p4 : DaN 1 (hide j H4) (.ref p4) := DaN.tup (n := 0) s4 a4 (by show 3 ≤ 50; decide) (fun x m => by
      simp only [List.mem_cons, List.not_mem_nil, or_false] at m
      rcases m with rfl | rfl | rfl
      · exact d_two.up (by decide)
      · exact d_last.up (by decide)
      · exact d_one.up (by decide))
    replace d_one := DaN.mono s4 d_one
    replace d_two := DaN.mono s4 d_two
    replace d_last := DaN.mono s4 d_last
    replace d_p1 := DaN.mono s4 d_p1
    replace d_p2 := DaN.mono s4 d_p2
    replace d_p3 := DaN.mono s4 d_p3
    have d_p4 := t_p4
    refine ⟨_, rfl, _, rfl, _, rfl, (by show 3 ≤ sizeLine; decide), fun p5 n5 => ?_⟩
    obtain ⟨H5, e5, s5, a5, k5, j5, q5, f5⟩ := grow (o := .tup [.str last, .str one, .str two]) k4 j4 n5
    rw [← e5]
    have t_p5 : DaN 1 (hide j H5) (.ref p5) := DaN.tup (n := 0) s5 a5 (by show 3 ≤ 50; decide) (fun x m => by
      simp only [List.mem_cons, List.not_mem_nil, or_false] at m
      rcases m with rfl | rfl | rfl
      · exact d_last.up (by decide)
      · exact d_one.up (by decide)
      · exact d_two.up (by decide))
    replace d_one := DaN.mono s5 d_one
    replace d_two := DaN.mono s5 d_two
    replace d_last := DaN.mono s5 d_last
    replace d_p1 := DaN.mono s5 d_p1
    replace d_p2 := DaN.mono s5 d_p2
    replace d_p3 := DaN.mono s5 d_p3
    replace d_p4 := DaN.mono s5 d_p4
    have d_p5 := t_p5
    refine ⟨_, rfl, _, rfl, _, rfl, (by show 3 ≤ sizeLine; decide), fun p6 n6 => ?_⟩
    obtain ⟨H6, e6, s6, a6, k6, j6, q6, f6⟩ := grow (o := .tup [.str last, .str two, .str one]) k5 j5 n6
    rw [← e6]
    have t_p6 : DaN 1 (hide j H6) (.ref p6) := DaN.tup (n := 0) s6 a6 (by show 3 ≤ 50; decide) (fun x m => by
      simp only [List.mem_cons, List.not_mem_nil, or_false] at m
      rcases m with rfl | rfl | rfl
      · exact d_last.up (by decide)
      · exact d_two.up (by decide)
      · exact d_one.up (by decide))
    replace d_one := DaN.mono s6 d_one
    replace d_two := DaN.mono s6 d_two
    replace d_last := DaN.mono s6 d_last
    replace d_p1 := DaN.mono s6 d_p1
    replace d_p2 := DaN.mono s6 d_p2
    replace d_p3 := DaN.mono s6 d_p3
    replace d_p4 := DaN.mono s6 d_p4
    replace d_p5 := DaN.mono s6 d_p5
    have d_p6 := t_p6
    refine ⟨(by show 6 ≤ sizeLine; decide), fun L1 n7 => ?_⟩
    obtain ⟨H7, e7, s7, a7, k7, j7, q7, f7⟩ := grow (o := .lst [.ref p1, .ref p2, .ref p3, .ref p4, .ref p5, .ref p6]) k6 j6 n7
    rw [← e7]
    replace d_one := DaN.mono s7 d_one
    replace d_two := DaN.mono s7 d_two
    replace d_last := DaN.mono s7 d_last
    replace d_p1 := DaN.mono s7 d_p1
    replace d_p2 := DaN.mono s7 d_p2
    replace d_p3 := DaN.mono s7 d_p3
    replace d_p4 := DaN.mono s7 d_p4
    replace d_p5 := DaN.mono s7 d_p5
    replace d_p6 := DaN.mono s7 d_p6
    have l_L1 := a7
    refine ⟨_, rfl, _, rfl, _, rfl, (by show 2 ≤ sizeLine; decide), fun p7 n8 => ?_⟩
    obtain ⟨H8, e8, s8, a8, k8, j8, q8, f8⟩ := grow (o := .tup [.str one, .str one]) k7 j7 n8
    rw [← e8]
    have t_p7 : DaN 1 (hide j H8) (.ref p7) := DaN.tup (n := 0) s8 a8 (by show 2 ≤ 50; decide) (fun x m => by
      simp only [List.mem_cons, List.not_mem_nil, or_false] at m
      rcases m with rfl | rfl
      · exact d_one.up (by decide)
      · exact d_one.up (by decide))
    replace d_one := DaN.mono s8 d_one
    replace d_two := DaN.mono s8 d_two
    replace d_last := DaN.mono s8 d_last
    replace d_p1 := DaN.mono s8 d_p1
    replace d_p2 := DaN.mono s8 d_p2
    replace d_p3 := DaN.mono s8 d_p3
    replace d_p4 := DaN.mono s8 d_p4
    replace d_p5 := DaN.mono s8 d_p5
    replace d_p6 := DaN.mono s8 d_p6
    replace l_L1 := s8 _ _ l_L1
    have d_p7 := t_p7
    refine ⟨_, rfl, _, rfl, _, rfl, (by show 3 ≤ sizeLine; decide), fun p8 n9 => ?_⟩
    obtain ⟨H9, e9, s9, a9, k9, j9, q9, f9⟩ := grow (o := .tup [.str one, .str two, .str two]) k8 j8 n9
    rw [← e9]
    have t_p8 : DaN 1 (hide j H9) (.ref p8) := DaN.tup (n := 0) s9 a9 (by show 3 ≤ 50; decide) (fun x m => by
      simp only [List.mem_cons, List.not_mem_nil, or_false] at m
      rcases m with rfl | rfl | rfl
      · exact d_one.up (by decide)
      · exact d_two.up (by decide)
      · exact d_two.up (by decide))
    replace d_one := DaN.mono s9 d_one
    replace d_two := DaN.mono s9 d_two
    replace d_last := DaN.mono s9 d_last
    replace d_p1 := DaN.mono s9 d_p1
    replace d_p2 := DaN.mono s9 d_p2
    replace d_p3 := DaN.mono s9 d_p3
    replace d_p4 := DaN.mono s9 d_p4
    replace d_p5 := DaN.mono s9 d_p5
    replace d_p6 := DaN.mono s9 d_p6
    replace d_p7 := DaN.mono s9 d_p7
    replace l_L1 := s9 _ _ l_L1
    have d_p8 := t_p8
    refine ⟨_, rfl, (by show 1 ≤ sizeLine; decide), fun p9 n10 => ?_⟩
    obtain ⟨H10, e10, s10, a10, k10, j10, q10, f10⟩ := grow (o := .tup [.str one]) k9 j9 n10
    rw [← e10]
    have t_p9 : DaN 1 (hide j H10) (.ref p9) := DaN.tup (n := 0) s10 a10 (by show 1 ≤ 50; decide) (fun x m => by
      simp only [List.mem_cons, List.not_mem_nil, or_false] at m
      rcases m with rfl
      · exact d_one.up (by decide))
    replace d_one := DaN.mono s10 d_one
    replace d_two := DaN.mono s10 d_two
    replace d_last := DaN.mono s10 d_last
    replace d_p1 := DaN.mono s10 d_p1
    replace d_p2 := DaN.mono s10 d_p2
    replace d_p3 := DaN.mono s10 d_p3
    replace d_p4 := DaN.mono s10 d_p4
    replace d_p5 := DaN.mono s10 d_p5
    replace d_p6 := DaN.mono s10 d_p6
    replace d_p7 := DaN.mono s10 d_p7
    replace d_p8 := DaN.mono s10 d_p8
    replace l_L1 := s10 _ _ l_L1
    have d_p9 := t_p9
    refine ⟨(by show 0 ≤ sizeLine; decide), fun p10 n11 => ?_⟩
    obtain ⟨H11, e11, s11, a11, k11, j11, q11, f11⟩ := grow (o := .tup []) k10 j10 n11
    rw [← e11]
    have t_p10 : DaN 1 (hide j H11) (.ref p10) := DaN.tup (n := 0) s11 a11 (by show 0 ≤ 50; decide) (fun x m => by cases m)
    replace d_one := DaN.mono s11 d_one
    replace d_two := DaN.mono s11 d_two
    replace d_last := DaN.mono s11 d_last
    replace d_p1 := DaN.mono s11 d_p1
    replace d_p2 := DaN.mono s11 d_p2
    replace d_p3 := DaN.mono s11 d_p3
    replace d_p4 := DaN.mono s11 d_p4
    replace d_p5 := DaN.mono s11 d_p5
    replace d_p6 := DaN.mono s11 d_p6
    replace d_p7 := DaN.mono s11 d_p7
    replace d_p8 := DaN.mono s11 d_p8
    replace d_p9 := DaN.mono s11 d_p9
    replace l_L1 := s11 _ _ l_L1
    have d_p10 := t_p10
    refine ⟨_, rfl, _, rfl, (by show 2 ≤ sizeLine; decide), fun p11 n12 => ?_⟩
    obtain ⟨H12, e12, s12, a12, k12, j12, q12, f12⟩ := grow (o := .tup [.str one, .str two]) k11 j11 n12
    rw [← e12]
    have t_p11 : DaN 1 (hide j H12) (.ref p11) := DaN.tup (n := 0) s12 a12 (by show 2 ≤ 50; decide) (fun x m => by
      simp only [List.mem_cons, List.not_mem_nil, or_false] at m
      rcases m with rfl | rfl
      · exact d_one.up (by decide)
      · exact d_two.up (by decide))
    replace d_one := DaN.mono s12 d_one
    replace d_two := DaN.mono s12 d_two
    replace d_last := DaN.mono s12 d_last
    replace d_p1 := DaN.mono s12 d_p1
    replace d_p2 := DaN.mono s12 d_p2
    replace d_p3 := DaN.mono s12 d_p3
    replace d_p4 := DaN.mono s12 d_p4
    replace d_p5 := DaN.mono s12 d_p5
    replace d_p6 := DaN.mono s12 d_p6
    replace d_p7 := DaN.mono s12 d_p7
    replace d_p8 := DaN.mono s12 d_p8
    replace d_p9 := DaN.mono s12 d_p9
    replace d_p10 := DaN.mono s12 d_p10
    replace l_L1 := s12 _ _ l_L1
    have d_p11 := t_p11
    refine ⟨_, rfl, _, rfl, (by show 2 ≤ sizeLine; decide), fun p12 n13 => ?_⟩
    obtain ⟨H13, e13, s13, a13, k13, j13, q13, f13⟩ := grow (o := .tup [.str two, .str one]) k12 j12 n13
    rw [← e13]
    have t_p12 : DaN 1 (hide j H13) (.ref p12) := DaN.tup (n := 0) s13 a13 (by show 2 ≤ 50; decide) (fun x m => by
      simp only [List.mem_cons, List.not_mem_nil, or_false] at m
      rcases m with rfl | rfl
      · exact d_two.up (by decide)
      · exact d_one.up (by decide))
    replace d_one := DaN.mono s13 d_one
    replace d_two := DaN.mono s13 d_two
    replace d_last := DaN.mono s13 d_last
    replace d_p1 := DaN.mono s13 d_p1
    replace d_p2 := DaN.mono s13 d_p2
    replace d_p3 := DaN.mono s13 d_p3
    replace d_p4 := DaN.mono s13 d_p4
    replace d_p5 := DaN.mono s13 d_p5
    replace d_p6 := DaN.mono s13 d_p6
    replace d_p7 := DaN.mono s13 d_p7
    replace d_p8 := DaN.mono s13 d_p8
    replace d_p9 := DaN.mono s13 d_p9
    replace d_p10 := DaN.mono s13 d_p10
    replace d_p11 := DaN.mono s13 d_p11
    replace l_L1 := s13 _ _ l_L1
    have d_p12 := t_p12
    refine ⟨_, rfl, (by show 1 ≤ sizeLine; decide), fun q1_ n14 => ?_⟩
    obtain ⟨H14, e14, s14, a14, k14, j14, q14, f14⟩ := grow (o := .lst [.str one]) k13 j13 n14
    rw [← e14]
    have t_q1_ : DaN 1 (hide j H14) (.ref q1_) := DaN.lst (n := 0) s14 a14 (by show 1 ≤ 50; decide) (fun x m => by
      simp only [List.mem_cons, List.not_mem_nil, or_false] at m
      rcases m with rfl
      · exact d_one.up (by decide))
    replace d_one := DaN.mono s14 d_one
    replace d_two := DaN.mono s14 d_two
    replace d_last := DaN.mono s14 d_last
    replace d_p1 := DaN.mono s14 d_p1
    replace d_p2 := DaN.mono s14 d_p2
    replace d_p3 := DaN.mono s14 d_p3
    replace d_p4 := DaN.mono s14 d_p4
    replace d_p5 := DaN.mono s14 d_p5
    replace d_p6 := DaN.mono s14 d_p6
    replace d_p7 := DaN.mono s14 d_p7
    replace d_p8 := DaN.mono s14 d_p8
    replace d_p9 := DaN.mono s14 d_p9
    replace d_p10 := DaN.mono s14 d_p10
    replace d_p11 := DaN.mono s14 d_p11
    replace d_p12 := DaN.mono s14 d_p12
    replace l_L1 := s14 _ _ l_L1
    have d_q1_ := t_q1_
    refine ⟨_, rfl, _, rfl, (by show 2 ≤ sizeLine; decide), fun q2_ n15 => ?_⟩
    obtain ⟨H15, e15, s15, a15, k15, j15, q15, f15⟩ := grow (o := .lst [.str one, .str two]) k14 j14 n15
    rw [← e15]
    have t_q2_ : DaN 1 (hide j H15) (.ref q2_) := DaN.lst (n := 0) s15 a15 (by show 2 ≤ 50; decide) (fun x m => by
      simp only [List.mem_cons, List.not_mem_nil, or_false] at m
      rcases m with rfl | rfl
      · exact d_one.up (by decide)
      · exact d_two.up (by decide))
    replace d_one := DaN.mono s15 d_one
    replace d_two := DaN.mono s15 d_two
    replace d_last := DaN.mono s15 d_last
    replace d_p1 := DaN.mono s15 d_p1
    replace d_p2 := DaN.mono s15 d_p2
    replace d_p3 := DaN.mono s15 d_p3
    replace d_p4 := DaN.mono s15 d_p4
    replace d_p5 := DaN.mono s15 d_p5
    replace d_p6 := DaN.mono s15 d_p6
    replace d_p7 := DaN.mono s15 d_p7
    replace d_p8 := DaN.mono s15 d_p8
    replace d_p9 := DaN.mono s15 d_p9
    replace d_p10 := DaN.mono s15 d_p10
    replace d_p11 := DaN.mono s15 d_p11
    replace d_p12 := DaN.mono s15 d_p12
    replace d_q1_ := DaN.mono s15 d_q1_
    replace l_L1 := s15 _ _ l_L1
    have d_q2_ := t_q2_
    refine fun dd n16 => ⟨_, rfl, _, rfl, upd_same, [(Sum.inr one, .str two)], rfl, (by show 1 ≤ 15; decide), ?_⟩
    rw [upd_upd]
    obtain ⟨H16, e16, s16, a16, k16, j16, q16, f16⟩ := grow (o := .dK (mergeK [] [(Sum.inr one, .str two)])) k15 j15 n16
    rw [← e16]
    replace d_one := DaN.mono s16 d_one
    replace d_two := DaN.mono s16 d_two
    replace d_last := DaN.mono s16 d_last
    replace d_p1 := DaN.mono s16 d_p1
    replace d_p2 := DaN.mono s16 d_p2
    replace d_p3 := DaN.mono s16 d_p3
    replace d_p4 := DaN.mono s16 d_p4
    replace d_p5 := DaN.mono s16 d_p5
    replace d_p6 := DaN.mono s16 d_p6
    replace d_p7 := DaN.mono s16 d_p7
    replace d_p8 := DaN.mono s16 d_p8
    replace d_p9 := DaN.mono s16 d_p9
    replace d_p10 := DaN.mono s16 d_p10
    replace d_p11 := DaN.mono s16 d_p11
    replace d_p12 := DaN.mono s16 d_p12
    replace d_q1_ := DaN.mono s16 d_q1_
    replace d_q2_ := DaN.mono s16 d_q2_
    replace l_L1 := s16 _ _ l_L1
    have c_dd : Pl (hide j H16) (.ref dd) := .dct a16
    refine ⟨(by show 9 ≤ sizeLine; decide), fun L2 n17 => ?_⟩
    obtain ⟨H17, e17, s17, a17, k17, j17, q17, f17⟩ := grow (o := .lst [.ref p7, .ref p8, .ref p9, .ref p10, .ref p11, .ref p12, .ref q1_, .ref q2_, .ref dd]) k16 j16 n17
    rw [← e17]
    replace d_one := DaN.mono s17 d_one
    replace d_two := DaN.mono s17 d_two
    replace d_last := DaN.mono s17 d_last
    replace d_p1 := DaN.mono s17 d_p1
    replace d_p2 := DaN.mono s17 d_p2
    replace d_p3 := DaN.mono s17 d_p3
    replace d_p4 := DaN.mono s17 d_p4
    replace d_p5 := DaN.mono s17 d_p5
    replace d_p6 := DaN.mono s17 d_p6
    replace d_p7 := DaN.mono s17 d_p7
    replace d_p8 := DaN.mono s17 d_p8
    replace d_p9 := DaN.mono s17 d_p9
    replace d_p10 := DaN.mono s17 d_p10
    replace d_p11 := DaN.mono s17 d_p11
    replace d_p12 := DaN.mono s17 d_p12
    replace d_q1_ := DaN.mono s17 d_q1_
    replace d_q2_ := DaN.mono s17 d_q2_
    replace l_L1 := s17 _ _ l_L1
    replace c_dd := Pl.mono s17 c_dd
    have l_L2 := a17
    refine ⟨L1, L2, _, _, rfl, rfl, unhide l_L1, unhide l_L2, (by show 15 ≤ sizeLine; decide), fun L3 n18 => ?_⟩
    obtain ⟨H18, e18, s18, a18, k18, j18, q18, f18⟩ := grow (o := .lst ([.ref p1, .ref p2, .ref p3, .ref p4, .ref p5, .ref p6] ++ [.ref p7, .ref p8, .ref p9, .ref p10, .ref p11, .ref p12, .ref q1_, .ref q2_, .ref dd])) k17 j17 n18
    rw [← e18]
    replace d_one := DaN.mono s18 d_one
    replace d_two := DaN.mono s18 d_two
    replace d_last := DaN.mono s18 d_last
    replace d_p1 := DaN.mono s18 d_p1
    replace d_p2 := DaN.mono s18 d_p2
    replace d_p3 := DaN.mono s18 d_p3
    replace d_p4 := DaN.mono s18 d_p4
    replace d_p5 := DaN.mono s18 d_p5
    replace d_p6 := DaN.mono s18 d_p6
    replace d_p7 := DaN.mono s18 d_p7
    replace d_p8 := DaN.mono s18 d_p8
    replace d_p9 := DaN.mono s18 d_p9
    replace d_p10 := DaN.mono s18 d_p10
    replace d_p11 := DaN.mono s18 d_p11
    replace d_p12 := DaN.mono s18 d_p12
    replace d_q1_ := DaN.mono s18 d_q1_
    replace d_q2_ := DaN.mono s18 d_q2_
    replace l_L1 := s18 _ _ l_L1
    replace l_L2 := s18 _ _ l_L2
    replace c_dd := Pl.mono s18 c_dd
    have l_L3 := a18
    have len12 : one.length + two.length ≤ sizeLine := Nat.le_trans (Nat.add_le_add h_one.1 h_two.1) (by decide)
    have len12x : (one ++ two).length + ("xxxxxxxx" : Str).length ≤ sizeLine := Nat.le_trans (Nat.add_le_add (h_one.cat h_two).1 (show ("xxxxxxxx" : Str).length ≤ 8 by decide +kernel)) (by decide)
    have lenb1 : (" " : Str).length + one.length ≤ sizeLine := Nat.le_trans (Nat.add_le_add (show (" " : Str).length ≤ 1 by decide +kernel) h_one.1) (by decide)
    refine ⟨_, rfl, _, rfl, _, rfl, _, _, rfl, rfl, len12, _, _, rfl, rfl, len12x, _, rfl, (by show 1 ≤ sizeLine; decide), fun p13 n19 => ?_⟩
    obtain ⟨H19, e19, s19, a19, k19, j19, q19, f19⟩ := grow (o := .tup [.str one]) k18 j18 n19
    rw [← e19]
    have t_p13 : DaN 1 (hide j H19) (.ref p13) := DaN.tup (n := 0) s19 a19 (by show 1 ≤ 50; decide) (fun x m => by
      simp only [List.mem_cons, List.not_mem_nil, or_false] at m
      rcases m with rfl
      · exact d_one.up (by decide))
    replace d_one := DaN.mono s19 d_one
    replace d_two := DaN.mono s19 d_two
    replace d_last := DaN.mono s19 d_last
    replace d_p1 := DaN.mono s19 d_p1
    replace d_p2 := DaN.mono s19 d_p2
    replace d_p3 := DaN.mono s19 d_p3
    replace d_p4 := DaN.mono s19 d_p4
    replace d_p5 := DaN.mono s19 d_p5
    replace d_p6 := DaN.mono s19 d_p6
    replace d_p7 := DaN.mono s19 d_p7
    replace d_p8 := DaN.mono s19 d_p8
    replace d_p9 := DaN.mono s19 d_p9
    replace d_p10 := DaN.mono s19 d_p10
    replace d_p11 := DaN.mono s19 d_p11
    replace d_p12 := DaN.mono s19 d_p12
    replace d_q1_ := DaN.mono s19 d_q1_
    replace d_q2_ := DaN.mono s19 d_q2_
    replace l_L1 := s19 _ _ l_L1
    replace l_L2 := s19 _ _ l_L2
    replace l_L3 := s19 _ _ l_L3
    replace c_dd := Pl.mono s19 c_dd
    have d_p13 := t_p13
    refine ⟨_, rfl, (by show 1 ≤ sizeLine; decide), fun q3_ n20 => ?_⟩
    obtain ⟨H20, e20, s20, a20, k20, j20, q20, f20⟩ := grow (o := .lst [.str one]) k19 j19 n20
    rw [← e20]
    have t_q3_ : DaN 1 (hide j H20) (.ref q3_) := DaN.lst (n := 0) s20 a20 (by show 1 ≤ 50; decide) (fun x m => by
      simp only [List.mem_cons, List.not_mem_nil, or_false] at m
      rcases m with rfl
      · exact d_one.up (by decide))
    replace d_one := DaN.mono s20 d_one
    replace d_two := DaN.mono s20 d_two
    replace d_last := DaN.mono s20 d_last
    replace d_p1 := DaN.mono s20 d_p1
    replace d_p2 := DaN.mono s20 d_p2
    replace d_p3 := DaN.mono s20 d_p3
    replace d_p4 := DaN.mono s20 d_p4
    replace d_p5 := DaN.mono s20 d_p5
    replace d_p6 := DaN.mono s20 d_p6
    replace d_p7 := DaN.mono s20 d_p7
    replace d_p8 := DaN.mono s20 d_p8
    replace d_p9 := DaN.mono s20 d_p9
    replace d_p10 := DaN.mono s20 d_p10
    replace d_p11 := DaN.mono s20 d_p11
    replace d_p12 := DaN.mono s20 d_p12
    replace d_q1_ := DaN.mono s20 d_q1_
    replace d_q2_ := DaN.mono s20 d_q2_
    replace d_p13 := DaN.mono s20 d_p13
    replace l_L1 := s20 _ _ l_L1
    replace l_L2 := s20 _ _ l_L2
    replace l_L3 := s20 _ _ l_L3
    replace c_dd := Pl.mono s20 c_dd
    have d_q3_ := t_q3_
    have w1 : plainT 100 (one ++ two ++ "xxxxxxxx") := ((h_one.cat h_two).cat x8).mono (by decide)
    have w2 : plainT 100 (" " ++ one) := (b1.cat h_one).mono (by decide)
    refine ⟨_, rfl, _, _, rfl, rfl, lenb1, (by show 9 ≤ sizeLine; decide), fun L4 n21 => ?_⟩
    obtain ⟨H21, e21, s21, a21, k21, j21, q21, f21⟩ := grow (o := .lst [.str "", .str "A", .str (one ++ two ++ "xxxxxxxx"), .non, .int 0, .bl true, .ref p13, .ref q3_, .str (" " ++ one)]) k20 j20 n21
    rw [← e21]
    replace d_one := DaN.mono s21 d_one
    replace d_two := DaN.mono s21 d_two
    replace d_last := DaN.mono s21 d_last
    replace d_p1 := DaN.mono s21 d_p1
    replace d_p2 := DaN.mono s21 d_p2
    replace d_p3 := DaN.mono s21 d_p3
    replace d_p4 := DaN.mono s21 d_p4
    replace d_p5 := DaN.mono s21 d_p5
    replace d_p6 := DaN.mono s21 d_p6
    replace d_p7 := DaN.mono s21 d_p7
    replace d_p8 := DaN.mono s21 d_p8
    replace d_p9 := DaN.mono s21 d_p9
    replace d_p10 := DaN.mono s21 d_p10
    replace d_p11 := DaN.mono s21 d_p11
    replace d_p12 := DaN.mono s21 d_p12
    replace d_q1_ := DaN.mono s21 d_q1_
    replace d_q2_ := DaN.mono s21 d_q2_
    replace d_p13 := DaN.mono s21 d_p13
    replace d_q3_ := DaN.mono s21 d_q3_
    replace l_L1 := s21 _ _ l_L1
    replace l_L2 := s21 _ _ l_L2
    replace l_L3 := s21 _ _ l_L3
    replace c_dd := Pl.mono s21 c_dd
    refine ⟨j, L4, _, rfl, j21, unhide a21, q21.symm, (by show 0 < 9; decide), (by show 9 ≤ 100000; decide), fun H22 odd kk22 j22 mo => ?_⟩
    have k22 := k21.trans kk22
    have s22 := hideS kk22
    have d_odd0 : DaN 1 (hide j H21) odd := by
      simp only [List.mem_cons, List.not_mem_nil, or_false] at mo
      rcases mo with rfl | rfl | rfl | rfl | rfl | rfl | rfl | rfl | rfl
      · exact DaN.txt e0
      · exact DaN.txt cA
      · exact DaN.txt w1
      · exact ⟨_, .non, by decide⟩
      · exact ⟨_, .int 0, by decide⟩
      · exact ⟨_, .bl true, by decide⟩
      · exact d_p13
      · exact d_q3_
      · exact DaN.txt w2
    replace d_one := DaN.mono s22 d_one
    replace d_two := DaN.mono s22 d_two
    replace d_last := DaN.mono s22 d_last
    replace d_p1 := DaN.mono s22 d_p1
    replace d_p2 := DaN.mono s22 d_p2
    replace d_p3 := DaN.mono s22 d_p3
    replace d_p4 := DaN.mono s22 d_p4
    replace d_p5 := DaN.mono s22 d_p5
    replace d_p6 := DaN.mono s22 d_p6
    replace d_p7 := DaN.mono s22 d_p7
    replace d_p8 := DaN.mono s22 d_p8
    replace d_p9 := DaN.mono s22 d_p9
    replace d_p10 := DaN.mono s22 d_p10
    replace d_p11 := DaN.mono s22 d_p11
    replace d_p12 := DaN.mono s22 d_p12
    replace d_q1_ := DaN.mono s22 d_q1_
    replace d_q2_ := DaN.mono s22 d_q2_
    replace d_p13 := DaN.mono s22 d_p13
    replace d_q3_ := DaN.mono s22 d_q3_
    replace l_L1 := s22 _ _ l_L1
    replace l_L2 := s22 _ _ l_L2
    replace l_L3 := s22 _ _ l_L3
    replace c_dd := Pl.mono s22 c_dd
    have d_odd := DaN.mono s22 d_odd0
    refine ⟨_, rfl, _, rfl, (by show 1 ≤ sizeLine; decide), fun p14 n23 => ?_⟩
    obtain ⟨H23, e23, s23, a23, k23, j23, q23, f23⟩ := grow (o := .tup [odd]) k22 j22 n23
    rw [← e23]
    have t_p14 : DaN 2 (hide j H23) (.ref p14) := DaN.tup (n := 1) s23 a23 (by show 1 ≤ 50; decide) (fun x m => by
      simp only [List.mem_cons, List.not_mem_nil, or_false] at m
      rcases m with rfl
      · exact d_odd.up (by decide))
    replace d_one := DaN.mono s23 d_one
    replace d_two := DaN.mono s23 d_two
    replace d_last := DaN.mono s23 d_last
    replace d_p1 := DaN.mono s23 d_p1
    replace d_p2 := DaN.mono s23 d_p2
    replace d_p3 := DaN.mono s23 d_p3
    replace d_p4 := DaN.mono s23 d_p4
    replace d_p5 := DaN.mono s23 d_p5
    replace d_p6 := DaN.mono s23 d_p6
    replace d_p7 := DaN.mono s23 d_p7
    replace d_p8 := DaN.mono s23 d_p8
    replace d_p9 := DaN.mono s23 d_p9
    replace d_p10 := DaN.mono s23 d_p10
    replace d_p11 := DaN.mono s23 d_p11
    replace d_p12 := DaN.mono s23 d_p12
    replace d_q1_ := DaN.mono s23 d_q1_
    replace d_q2_ := DaN.mono s23 d_q2_
    replace d_p13 := DaN.mono s23 d_p13
    replace d_q3_ := DaN.mono s23 d_q3_
    replace d_odd := DaN.mono s23 d_odd
    replace l_L1 := s23 _ _ l_L1
    replace l_L2 := s23 _ _ l_L2
    replace l_L3 := s23 _ _ l_L3
    replace c_dd := Pl.mono s23 c_dd
    have d_p14 := t_p14
    refine ⟨_, rfl, _, rfl, (by show 2 ≤ sizeLine; decide), fun q4_ n24 => ?_⟩
    obtain ⟨H24, e24, s24, a24, k24, j24, q24, f24⟩ := grow (o := .lst [.str one, .str two]) k23 j23 n24
    rw [← e24]
    have t_q4_ : DaN 1 (hide j H24) (.ref q4_) := DaN.lst (n := 0) s24 a24 (by show 2 ≤ 50; decide) (fun x m => by
      simp only [List.mem_cons, List.not_mem_nil, or_false] at m
      rcases m with rfl | rfl
      · exact d_one.up (by decide)
      · exact d_two.up (by decide))
    replace d_one := DaN.mono s24 d_one
    replace d_two := DaN.mono s24 d_two
    replace d_last := DaN.mono s24 d_last
    replace d_p1 := DaN.mono s24 d_p1
    replace d_p2 := DaN.mono s24 d_p2
    replace d_p3 := DaN.mono s24 d_p3
    replace d_p4 := DaN.mono s24 d_p4
    replace d_p5 := DaN.mono s24 d_p5
    replace d_p6 := DaN.mono s24 d_p6
    replace d_p7 := DaN.mono s24 d_p7
    replace d_p8 := DaN.mono s24 d_p8
    replace d_p9 := DaN.mono s24 d_p9
    replace d_p10 := DaN.mono s24 d_p10
    replace d_p11 := DaN.mono s24 d_p11
    replace d_p12 := DaN.mono s24 d_p12
    replace d_q1_ := DaN.mono s24 d_q1_
    replace d_q2_ := DaN.mono s24 d_q2_
    replace d_p13 := DaN.mono s24 d_p13
    replace d_q3_ := DaN.mono s24 d_q3_
    replace d_odd := DaN.mono s24 d_odd
    replace d_p14 := DaN.mono s24 d_p14
    replace l_L1 := s24 _ _ l_L1
    replace l_L2 := s24 _ _ l_L2
    replace l_L3 := s24 _ _ l_L3
    replace c_dd := Pl.mono s24 c_dd
    have d_q4_ := t_q4_
    have d_at_q4 := a24
    refine ⟨q4_, [one, two], rfl, sq_new (unhide d_at_q4), (by show 2 < 64; decide), fun ss q5_ pm so n25 => ?_⟩
    obtain ⟨H25, e25, s25, a25, k25, j25, q25, f25⟩ := grow (o := .lst (ss.map V.str)) k24 j24 n25
    rw [← e25]
    replace d_one := DaN.mono s25 d_one
    replace d_two := DaN.mono s25 d_two
    replace d_last := DaN.mono s25 d_last
    replace d_p1 := DaN.mono s25 d_p1
    replace d_p2 := DaN.mono s25 d_p2
    replace d_p3 := DaN.mono s25 d_p3
    replace d_p4 := DaN.mono s25 d_p4
    replace d_p5 := DaN.mono s25 d_p5
    replace d_p6 := DaN.mono s25 d_p6
    replace d_p7 := DaN.mono s25 d_p7
    replace d_p8 := DaN.mono s25 d_p8
    replace d_p9 := DaN.mono s25 d_p9
    replace d_p10 := DaN.mono s25 d_p10
    replace d_p11 := DaN.mono s25 d_p11
    replace d_p12 := DaN.mono s25 d_p12
    replace d_q1_ := DaN.mono s25 d_q1_
    replace d_q2_ := DaN.mono s25 d_q2_
    replace d_p13 := DaN.mono s25 d_p13
    replace d_q3_ := DaN.mono s25 d_q3_
    replace d_odd := DaN.mono s25 d_odd
    replace d_p14 := DaN.mono s25 d_p14
    replace d_q4_ := DaN.mono s25 d_q4_
    replace l_L1 := s25 _ _ l_L1
    replace l_L2 := s25 _ _ l_L2
    replace l_L3 := s25 _ _ l_L3
    replace c_dd := Pl.mono s25 c_dd
    have sp : ∀ z ∈ ss, plainT 100 z := fun z m => by
      have := pm.mem_iff.mp m
      simp only [List.mem_cons, List.not_mem_nil, or_false] at this
      rcases this with rfl | rfl
      · exact h_one.mono (by decide)
      · exact h_two.mono (by decide)
    have sl : ss.length = 2 := pm.length_eq
    refine ⟨q5_, ss.map V.str, rfl, .inl ⟨sq_new (unhide a25), fun p15 n26 => ?_⟩⟩
    obtain ⟨H26, e26, s26, a26, k26, j26, q26, f26⟩ := grow (o := .tup (ss.map V.str)) k25 j25 n26
    rw [← e26]
    replace d_one := DaN.mono s26 d_one
    replace d_two := DaN.mono s26 d_two
    replace d_last := DaN.mono s26 d_last
    replace d_p1 := DaN.mono s26 d_p1
    replace d_p2 := DaN.mono s26 d_p2
    replace d_p3 := DaN.mono s26 d_p3
    replace d_p4 := DaN.mono s26 d_p4
    replace d_p5 := DaN.mono s26 d_p5
    replace d_p6 := DaN.mono s26 d_p6
    replace d_p7 := DaN.mono s26 d_p7
    replace d_p8 := DaN.mono s26 d_p8
    replace d_p9 := DaN.mono s26 d_p9
    replace d_p10 := DaN.mono s26 d_p10
    replace d_p11 := DaN.mono s26 d_p11
    replace d_p12 := DaN.mono s26 d_p12
    replace d_q1_ := DaN.mono s26 d_q1_
    replace d_q2_ := DaN.mono s26 d_q2_
    replace d_p13 := DaN.mono s26 d_p13
    replace d_q3_ := DaN.mono s26 d_q3_
    replace d_odd := DaN.mono s26 d_odd
    replace d_p14 := DaN.mono s26 d_p14
    replace d_q4_ := DaN.mono s26 d_q4_
    replace l_L1 := s26 _ _ l_L1
    replace l_L2 := s26 _ _ l_L2
    replace l_L3 := s26 _ _ l_L3
    replace c_dd := Pl.mono s26 c_dd
    have at15 := a26
    refine ⟨_, rfl, (by show 1 ≤ sizeLine; decide), fun p16 n27 => ?_⟩
    obtain ⟨H27, e27, s27, a27, k27, j27, q27, f27⟩ := grow (o := .tup [odd]) k26 j26 n27
    rw [← e27]
    have t_p16 : DaN 2 (hide j H27) (.ref p16) := DaN.tup (n := 1) s27 a27 (by show 1 ≤ 50; decide) (fun x m => by
      simp only [List.mem_cons, List.not_mem_nil, or_false] at m
      rcases m with rfl
      · exact d_odd.up (by decide))
    replace d_one := DaN.mono s27 d_one
    replace d_two := DaN.mono s27 d_two
    replace d_last := DaN.mono s27 d_last
    replace d_p1 := DaN.mono s27 d_p1
    replace d_p2 := DaN.mono s27 d_p2
    replace d_p3 := DaN.mono s27 d_p3
    replace d_p4 := DaN.mono s27 d_p4
    replace d_p5 := DaN.mono s27 d_p5
    replace d_p6 := DaN.mono s27 d_p6
    replace d_p7 := DaN.mono s27 d_p7
    replace d_p8 := DaN.mono s27 d_p8
    replace d_p9 := DaN.mono s27 d_p9
    replace d_p10 := DaN.mono s27 d_p10
    replace d_p11 := DaN.mono s27 d_p11
    replace d_p12 := DaN.mono s27 d_p12
    replace d_q1_ := DaN.mono s27 d_q1_
    replace d_q2_ := DaN.mono s27 d_q2_
    replace d_p13 := DaN.mono s27 d_p13
    replace d_q3_ := DaN.mono s27 d_q3_
    replace d_odd := DaN.mono s27 d_odd
    replace d_p14 := DaN.mono s27 d_p14
    replace d_q4_ := DaN.mono s27 d_q4_
    replace l_L1 := s27 _ _ l_L1
    replace l_L2 := s27 _ _ l_L2
    replace l_L3 := s27 _ _ l_L3
    replace c_dd := Pl.mono s27 c_dd
    have d_p16 := t_p16
    have at15 := s27 _ _ at15
    have at16 := a27
    refine ⟨p15, p16, ss.map V.str, [odd], rfl, rfl, .inl (.inl (unhide at15)), .inl (.inl (unhide at16)), (by rw [List.length_map, sl]; show 3 ≤ sizeLine; decide), fun z => (by have := congrArg List.length z; rw [List.length_map, sl] at this; cases this), fun _ z => (by cases z), fun _ _ p17 n28 => ?_⟩
    obtain ⟨H28, e28, s28, a28, k28, j28, q28, f28⟩ := grow (o := .tup (ss.map V.str ++ [odd])) k27 j27 n28
    rw [← e28]
    have t_p17 : DaN 2 (hide j H28) (.ref p17) := DaN.tup (n := 1) s28 a28 (by rw [List.length_append, List.length_map, sl]; show 3 ≤ 50; decide) (fun x m => by
      rcases List.mem_append.mp m with m | m
      · obtain ⟨z, hz, rfl⟩ := List.mem_map.mp m
        exact DaN.txt (sp z hz)
      · rw [List.mem_singleton.mp m]; exact d_odd)
    replace d_one := DaN.mono s28 d_one
    replace d_two := DaN.mono s28 d_two
    replace d_last := DaN.mono s28 d_last
    replace d_p1 := DaN.mono s28 d_p1
    replace d_p2 := DaN.mono s28 d_p2
    replace d_p3 := DaN.mono s28 d_p3
    replace d_p4 := DaN.mono s28 d_p4
    replace d_p5 := DaN.mono s28 d_p5
    replace d_p6 := DaN.mono s28 d_p6
    replace d_p7 := DaN.mono s28 d_p7
    replace d_p8 := DaN.mono s28 d_p8
    replace d_p9 := DaN.mono s28 d_p9
    replace d_p10 := DaN.mono s28 d_p10
    replace d_p11 := DaN.mono s28 d_p11
    replace d_p12 := DaN.mono s28 d_p12
    replace d_q1_ := DaN.mono s28 d_q1_
    replace d_q2_ := DaN.mono s28 d_q2_
    replace d_p13 := DaN.mono s28 d_p13
    replace d_q3_ := DaN.mono s28 d_q3_
    replace d_odd := DaN.mono s28 d_odd
    replace d_p14 := DaN.mono s28 d_p14
    replace d_q4_ := DaN.mono s28 d_q4_
    replace d_p16 := DaN.mono s28 d_p16
    replace l_L1 := s28 _ _ l_L1
    replace l_L2 := s28 _ _ l_L2
    replace l_L3 := s28 _ _ l_L3
    replace c_dd := Pl.mono s28 c_dd
    have d_p17 := t_p17
    refine ⟨_, rfl, _, rfl, (by show 1 ≤ sizeLine; decide), fun p18 n29 => ?_⟩
    obtain ⟨H29, e29, s29, a29, k29, j29, q29, f29⟩ := grow (o := .tup [.str two]) k28 j28 n29
    rw [← e29]
    have t_p18 : DaN 1 (hide j H29) (.ref p18) := DaN.tup (n := 0) s29 a29 (by show 1 ≤ 50; decide) (fun x m => by
      simp only [List.mem_cons, List.not_mem_nil, or_false] at m
      rcases m with rfl
      · exact d_two.up (by decide))
    replace d_one := DaN.mono s29 d_one
    replace d_two := DaN.mono s29 d_two
    replace d_last := DaN.mono s29 d_last
    replace d_p1 := DaN.mono s29 d_p1
    replace d_p2 := DaN.mono s29 d_p2
    replace d_p3 := DaN.mono s29 d_p3
    replace d_p4 := DaN.mono s29 d_p4
    replace d_p5 := DaN.mono s29 d_p5
    replace d_p6 := DaN.mono s29 d_p6
    replace d_p7 := DaN.mono s29 d_p7
    replace d_p8 := DaN.mono s29 d_p8
    replace d_p9 := DaN.mono s29 d_p9
    replace d_p10 := DaN.mono s29 d_p10
    replace d_p11 := DaN.mono s29 d_p11
    replace d_p12 := DaN.mono s29 d_p12
    replace d_q1_ := DaN.mono s29 d_q1_
    replace d_q2_ := DaN.mono s29 d_q2_
    replace d_p13 := DaN.mono s29 d_p13
    replace d_q3_ := DaN.mono s29 d_q3_
    replace d_odd := DaN.mono s29 d_odd
    replace d_p14 := DaN.mono s29 d_p14
    replace d_q4_ := DaN.mono s29 d_q4_
    replace d_p16 := DaN.mono s29 d_p16
    replace d_p17 := DaN.mono s29 d_p17
    replace l_L1 := s29 _ _ l_L1
    replace l_L2 := s29 _ _ l_L2
    replace l_L3 := s29 _ _ l_L3
    replace c_dd := Pl.mono s29 c_dd
    have d_p18 := t_p18
    refine ⟨(by show 2 ≤ sizeLine; decide), fun p19 n30 => ?_⟩
    obtain ⟨H30, e30, s30, a30, k30, j30, q30, f30⟩ := grow (o := .tup [.str one, .ref p18]) k29 j29 n30
    rw [← e30]
    have t_p19 : DaN 2 (hide j H30) (.ref p19) := DaN.tup (n := 1) s30 a30 (by show 2 ≤ 50; decide) (fun x m => by
      simp only [List.mem_cons, List.not_mem_nil, or_false] at m
      rcases m with rfl | rfl
      · exact d_one.up (by decide)
      · exact d_p18.up (by decide))
    replace d_one := DaN.mono s30 d_one
    replace d_two := DaN.mono s30 d_two
    replace d_last := DaN.mono s30 d_last
    replace d_p1 := DaN.mono s30 d_p1
    replace d_p2 := DaN.mono s30 d_p2
    replace d_p3 := DaN.mono s30 d_p3
    replace d_p4 := DaN.mono s30 d_p4
    replace d_p5 := DaN.mono s30 d_p5
    replace d_p6 := DaN.mono s30 d_p6
    replace d_p7 := DaN.mono s30 d_p7
    replace d_p8 := DaN.mono s30 d_p8
    replace d_p9 := DaN.mono s30 d_p9
    replace d_p10 := DaN.mono s30 d_p10
    replace d_p11 := DaN.mono s30 d_p11
    replace d_p12 := DaN.mono s30 d_p12
    replace d_q1_ := DaN.mono s30 d_q1_
    replace d_q2_ := DaN.mono s30 d_q2_
    replace d_p13 := DaN.mono s30 d_p13
    replace d_q3_ := DaN.mono s30 d_q3_
    replace d_odd := DaN.mono s30 d_odd
    replace d_p14 := DaN.mono s30 d_p14
    replace d_q4_ := DaN.mono s30 d_q4_
    replace d_p16 := DaN.mono s30 d_p16
    replace d_p17 := DaN.mono s30 d_p17
    replace d_p18 := DaN.mono s30 d_p18
    replace l_L1 := s30 _ _ l_L1
    replace l_L2 := s30 _ _ l_L2
    replace l_L3 := s30 _ _ l_L3
    replace c_dd := Pl.mono s30 c_dd
    have d_p19 := t_p19
    refine ⟨(by show 0 ≤ sizeLine; decide), fun p20 n31 => ?_⟩
    obtain ⟨H31, e31, s31, a31, k31, j31, q31, f31⟩ := grow (o := .tup []) k30 j30 n31
    rw [← e31]
    have t_p20 : DaN 1 (hide j H31) (.ref p20) := DaN.tup (n := 0) s31 a31 (by show 0 ≤ 50; decide) (fun x m => by cases m)
    replace d_one := DaN.mono s31 d_one
    replace d_two := DaN.mono s31 d_two
    replace d_last := DaN.mono s31 d_last
    replace d_p1 := DaN.mono s31 d_p1
    replace d_p2 := DaN.mono s31 d_p2
    replace d_p3 := DaN.mono s31 d_p3
    replace d_p4 := DaN.mono s31 d_p4
    replace d_p5 := DaN.mono s31 d_p5
    replace d_p6 := DaN.mono s31 d_p6
    replace d_p7 := DaN.mono s31 d_p7
    replace d_p8 := DaN.mono s31 d_p8
    replace d_p9 := DaN.mono s31 d_p9
    replace d_p10 := DaN.mono s31 d_p10
    replace d_p11 := DaN.mono s31 d_p11
    replace d_p12 := DaN.mono s31 d_p12
    replace d_q1_ := DaN.mono s31 d_q1_
    replace d_q2_ := DaN.mono s31 d_q2_
    replace d_p13 := DaN.mono s31 d_p13
    replace d_q3_ := DaN.mono s31 d_q3_
    replace d_odd := DaN.mono s31 d_odd
    replace d_p14 := DaN.mono s31 d_p14
    replace d_q4_ := DaN.mono s31 d_q4_
    replace d_p16 := DaN.mono s31 d_p16
    replace d_p17 := DaN.mono s31 d_p17
    replace d_p18 := DaN.mono s31 d_p18
    replace d_p19 := DaN.mono s31 d_p19
    replace l_L1 := s31 _ _ l_L1
    replace l_L2 := s31 _ _ l_L2
    replace l_L3 := s31 _ _ l_L3
    replace c_dd := Pl.mono s31 c_dd
    have d_p20 := t_p20
    refine ⟨(by show 1 ≤ sizeLine; decide), fun p21 n32 => ?_⟩
    obtain ⟨H32, e32, s32, a32, k32, j32, q32, f32⟩ := grow (o := .tup [.ref p20]) k31 j31 n32
    rw [← e32]
    have t_p21 : DaN 2 (hide j H32) (.ref p21) := DaN.tup (n := 1) s32 a32 (by show 1 ≤ 50; decide) (fun x m => by
      simp only [List.mem_cons, List.not_mem_nil, or_false] at m
      rcases m with rfl
      · exact d_p20.up (by decide))
    replace d_one := DaN.mono s32 d_one
    replace d_two := DaN.mono s32 d_two
    replace d_last := DaN.mono s32 d_last
    replace d_p1 := DaN.mono s32 d_p1
    replace d_p2 := DaN.mono s32 d_p2
    replace d_p3 := DaN.mono s32 d_p3
    replace d_p4 := DaN.mono s32 d_p4
    replace d_p5 := DaN.mono s32 d_p5
    replace d_p6 := DaN.mono s32 d_p6
    replace d_p7 := DaN.mono s32 d_p7
    replace d_p8 := DaN.mono s32 d_p8
    replace d_p9 := DaN.mono s32 d_p9
    replace d_p10 := DaN.mono s32 d_p10
    replace d_p11 := DaN.mono s32 d_p11
    replace d_p12 := DaN.mono s32 d_p12
    replace d_q1_ := DaN.mono s32 d_q1_
    replace d_q2_ := DaN.mono s32 d_q2_
    replace d_p13 := DaN.mono s32 d_p13
    replace d_q3_ := DaN.mono s32 d_q3_
    replace d_odd := DaN.mono s32 d_odd
    replace d_p14 := DaN.mono s32 d_p14
    replace d_q4_ := DaN.mono s32 d_q4_
    replace d_p16 := DaN.mono s32 d_p16
    replace d_p17 := DaN.mono s32 d_p17
    replace d_p18 := DaN.mono s32 d_p18
    replace d_p19 := DaN.mono s32 d_p19
    replace d_p20 := DaN.mono s32 d_p20
    replace l_L1 := s32 _ _ l_L1
    replace l_L2 := s32 _ _ l_L2
    replace l_L3 := s32 _ _ l_L3
    replace c_dd := Pl.mono s32 c_dd
    have d_p21 := t_p21
    refine ⟨_, rfl, _, rfl, _, rfl, _, rfl, (by show 4 ≤ sizeLine; decide), fun p22 n33 => ?_⟩
    obtain ⟨H33, e33, s33, a33, k33, j33, q33, f33⟩ := grow (o := .tup [.str one, .str two, .str one, .str two]) k32 j32 n33
    rw [← e33]
    have t_p22 : DaN 1 (hide j H33) (.ref p22) := DaN.tup (n := 0) s33 a33 (by show 4 ≤ 50; decide) (fun x m => by
      simp only [List.mem_cons, List.not_mem_nil, or_false] at m
      rcases m with rfl | rfl | rfl | rfl
      · exact d_one.up (by decide)
      · exact d_two.up (by decide)
      · exact d_one.up (by decide)
      · exact d_two.up (by decide))
    replace d_one := DaN.mono s33 d_one
    replace d_two := DaN.mono s33 d_two
    replace d_last := DaN.mono s33 d_last
    replace d_p1 := DaN.mono s33 d_p1
    replace d_p2 := DaN.mono s33 d_p2
    replace d_p3 := DaN.mono s33 d_p3
    replace d_p4 := DaN.mono s33 d_p4
    replace d_p5 := DaN.mono s33 d_p5
    replace d_p6 := DaN.mono s33 d_p6
    replace d_p7 := DaN.mono s33 d_p7
    replace d_p8 := DaN.mono s33 d_p8
    replace d_p9 := DaN.mono s33 d_p9
    replace d_p10 := DaN.mono s33 d_p10
    replace d_p11 := DaN.mono s33 d_p11
    replace d_p12 := DaN.mono s33 d_p12
    replace d_q1_ := DaN.mono s33 d_q1_
    replace d_q2_ := DaN.mono s33 d_q2_
    replace d_p13 := DaN.mono s33 d_p13
    replace d_q3_ := DaN.mono s33 d_q3_
    replace d_odd := DaN.mono s33 d_odd
    replace d_p14 := DaN.mono s33 d_p14
    replace d_q4_ := DaN.mono s33 d_q4_
    replace d_p16 := DaN.mono s33 d_p16
    replace d_p17 := DaN.mono s33 d_p17
    replace d_p18 := DaN.mono s33 d_p18
    replace d_p19 := DaN.mono s33 d_p19
    replace d_p20 := DaN.mono s33 d_p20
    replace d_p21 := DaN.mono s33 d_p21
    replace l_L1 := s33 _ _ l_L1
    replace l_L2 := s33 _ _ l_L2
    replace l_L3 := s33 _ _ l_L3
    replace c_dd := Pl.mono s33 c_dd
    have d_p22 := t_p22
    refine ⟨(by show 5 ≤ sizeLine; decide), fun L5 n34 => ?_⟩
    obtain ⟨H34, e34, s34, a34, k34, j34, q34, f34⟩ := grow (o := .lst [.ref p14, .ref p17, .ref p19, .ref p21, .ref p22]) k33 j33 n34
    rw [← e34]
    replace d_one := DaN.mono s34 d_one
    replace d_two := DaN.mono s34 d_two
    replace d_last := DaN.mono s34 d_last
    replace d_p1 := DaN.mono s34 d_p1
    replace d_p2 := DaN.mono s34 d_p2
    replace d_p3 := DaN.mono s34 d_p3
    replace d_p4 := DaN.mono s34 d_p4
    replace d_p5 := DaN.mono s34 d_p5
    replace d_p6 := DaN.mono s34 d_p6
    replace d_p7 := DaN.mono s34 d_p7
    replace d_p8 := DaN.mono s34 d_p8
    replace d_p9 := DaN.mono s34 d_p9
    replace d_p10 := DaN.mono s34 d_p10
    replace d_p11 := DaN.mono s34 d_p11
    replace d_p12 := DaN.mono s34 d_p12
    replace d_q1_ := DaN.mono s34 d_q1_
    replace d_q2_ := DaN.mono s34 d_q2_
    replace d_p13 := DaN.mono s34 d_p13
    replace d_q3_ := DaN.mono s34 d_q3_
    replace d_odd := DaN.mono s34 d_odd
    replace d_p14 := DaN.mono s34 d_p14
    replace d_q4_ := DaN.mono s34 d_q4_
    replace d_p16 := DaN.mono s34 d_p16
    replace d_p17 := DaN.mono s34 d_p17
    replace d_p18 := DaN.mono s34 d_p18
    replace d_p19 := DaN.mono s34 d_p19
    replace d_p20 := DaN.mono s34 d_p20
    replace d_p21 := DaN.mono s34 d_p21
    replace d_p22 := DaN.mono s34 d_p22
    replace l_L1 := s34 _ _ l_L1
    replace l_L2 := s34 _ _ l_L2
    replace l_L3 := s34 _ _ l_L3
    replace c_dd := Pl.mono s34 c_dd
    have l_L5 := a34
    refine ⟨L3, L5, _, _, rfl, rfl, unhide l_L3, unhide l_L5, (by show 20 ≤ sizeLine; decide), fun L6 n35 => ?_⟩
    obtain ⟨H35, e35, s35, a35, k35, j35, q35, f35⟩ := grow (o := .lst (([.ref p1, .ref p2, .ref p3, .ref p4, .ref p5, .ref p6] ++ [.ref p7, .ref p8, .ref p9, .ref p10, .ref p11, .ref p12, .ref q1_, .ref q2_, .ref dd]) ++ [.ref p14, .ref p17, .ref p19, .ref p21, .ref p22])) k34 j34 n35
    rw [← e35]
    replace d_one := DaN.mono s35 d_one
    replace d_two := DaN.mono s35 d_two
    replace d_last := DaN.mono s35 d_last
    replace d_p1 := DaN.mono s35 d_p1
    replace d_p2 := DaN.mono s35 d_p2
    replace d_p3 := DaN.mono s35 d_p3
    replace d_p4 := DaN.mono s35 d_p4
    replace d_p5 := DaN.mono s35 d_p5
    replace d_p6 := DaN.mono s35 d_p6
    replace d_p7 := DaN.mono s35 d_p7
    replace d_p8 := DaN.mono s35 d_p8
    replace d_p9 := DaN.mono s35 d_p9
    replace d_p10 := DaN.mono s35 d_p10
    replace d_p11 := DaN.mono s35 d_p11
    replace d_p12 := DaN.mono s35 d_p12
    replace d_q1_ := DaN.mono s35 d_q1_
    replace d_q2_ := DaN.mono s35 d_q2_
    replace d_p13 := DaN.mono s35 d_p13
    replace d_q3_ := DaN.mono s35 d_q3_
    replace d_odd := DaN.mono s35 d_odd
    replace d_p14 := DaN.mono s35 d_p14
    replace d_q4_ := DaN.mono s35 d_q4_
    replace d_p16 := DaN.mono s35 d_p16
    replace d_p17 := DaN.mono s35 d_p17
    replace d_p18 := DaN.mono s35 d_p18
    replace d_p19 := DaN.mono s35 d_p19
    replace d_p20 := DaN.mono s35 d_p20
    replace d_p21 := DaN.mono s35 d_p21
    replace d_p22 := DaN.mono s35 d_p22
    replace l_L1 := s35 _ _ l_L1
    replace l_L2 := s35 _ _ l_L2
    replace l_L3 := s35 _ _ l_L3
    replace l_L5 := s35 _ _ l_L5
    replace c_dd := Pl.mono s35 c_dd
    refine q _ L6 _ k35 j35 f35 (unhide a35) (by show 20 ≤ 40; decide) ?_
    intro x m
    simp only [List.cons_append, List.nil_append, List.mem_cons, List.not_mem_nil, or_false] at m
    rcases m with rfl | rfl | rfl | rfl | rfl | rfl | rfl | rfl | rfl | rfl | rfl | rfl | rfl | rfl | rfl | rfl | rfl | rfl | rfl | rfl
    · exact d_p1.pl (by decide)
    · exact d_p2.pl (by decide)
    · exact d_p3.pl (by decide)
    · exact d_p4.pl (by decide)
    · exact d_p5.pl (by decide)
    · exact d_p6.pl (by decide)
    · exact d_p7.pl (by decide)
    · exact d_p8.pl (by decide)
    · exact d_p9.pl (by decide)
    · exact d_p10.pl (by decide)
    · exact d_p11.pl (by decide)
    · exact d_p12.pl (by decide)
    · exact d_q1_.pl (by decide)
    · exact d_q2_.pl (by decide)
    · exact c_dd
    · exact d_p14.pl (by decide)
    · exact d_p17.pl (by decide)
    · exact d_p19.pl (by decide)
    · exact d_p21.pl (by decide)
    · exact d_p22.pl (by decide)
end
/-! D14 -/

theorem grow0 {p : Addr} {Hk : Hp} {o : HO} (n : Hk p = none) : ∃ H', H' = upd Hk p o ∧ Same Hk H' ∧ H' p = some o := ⟨_, rfl, same_new n o, upd_same⟩
theorem t1 : plainT 1 "1" := asc_of (by decide +kernel) (by decide +kernel)
theorem t8 : plainT 8 "abcdefgh" := asc_of (by decide +kernel) (by decide +kernel)
theorem t9 : plainT 9 "abcdefghi" := asc_of (by decide +kernel) (by decide +kernel)
theorem rowB_mono {H H' : Hp} {v : V} (p : Pl H v) (s : Same H H') : rowB H' v = rowB H v := by
  cases p with
  | str z h k => rfl
  | int i => rfl
  | bl b => rfl
  | non => rfl
  | lst h => simp only [rowB, h, s _ _ h]
  | dct h => simp only [rowB, h, s _ _ h]
  | tup h hl hx => simp only [rowB, h, s _ _ h]
theorem setB_mono {H H' : Hp} {v : V} (p : Pl H v) (s : Same H H') : setB H' v = setB H v := by
  have e := rowB_mono p s
  unfold setB
  rw [e]
  cases p with
  | str z h k => rfl
  | int i => rfl
  | bl b => rfl
  | non => rfl
  | lst h => simp only [h, s _ _ h]
  | dct h => simp only [h, s _ _ h]
  | tup h hl hx => simp only [h, s _ _ h]
def four (a b c d : Bool) : PyData := .list [.bool a, .bool b, .bool c, .bool d]
theorem four_ok (a b c d : Bool) : (four a b c d).showable = true ∧ (four a b c d).hasDict = false ∧ (four a b c d).depth ≤ 40 ∧ (four a b c d).shown.length ≤ sizeLine := by
  cases a <;> cases b <;> cases c <;> cases d <;> exact ⟨by decide +kernel, by decide +kernel, by decide +kernel, by decide +kernel⟩
theorem dp_four {K : PySem.W.Frag} {H : Hp} {L : Addr} {a b c d : Bool} (h : H L = some (.lst [.bl a, .bl b, .bl c, .bl d])) : Dp K H (.ref L) (four a b c d) := .lst (sq_new h) (.cons (.bl a) (.cons (.bl b) (.cons (.bl c) (.cons (.bl d) .nil))))
def spCell (K : PySem.W.Frag) : Sp := fun vs H Q _ => ∃ (a : Addr) (i : Int) (ns : List Int), vs = [.ref a, .int i] ∧ SqL K H a (ns.map V.int) ∧ 0 ≤ i ∧ i ≤ 1000000 ∧ ∀ H', Same H H' → Q (.bl true) H'
theorem keep_same {j : Addr} {H H1 H' : Hp} (n : H j = none) (s : Same H H1) (k : Keep j H1 H') : Same H H' := fun b o e => k b o (s b o e) (ne_of_none e n)
section
variable {P : Program} {w : World} {K : PySem.W.Frag} {mg : Str → Option Value} {base : Heap}
theorem ok_cell (T : Tx K mg) : FnG P w K mg base CX0 5 T.a_l_cell_right T.d_l_cell_right ["script", "at"] (spCell K) := by
  have G_l_jar : FnOk P w K mg base CX0 1 T.a_l_jar T.d_l_jar ["script", "at"] (spJar K) := ok_jar T
  have G_l_numbers : FnOk P w K mg base CX0 2 T.a_l_numbers T.d_l_numbers ["jar", "cell"] spNums := ok_numbers T
  have G_l_texts : FnOk P w K mg base CX0 3 T.a_l_texts T.d_l_texts ["jar"] spTexts := ok_texts T
  have G_l_tuples : FnOk P w K mg base CX0 4 T.a_l_tuples T.d_l_tuples ["jar"] spTups := ok_tuples T
  have G_is_integer : FnOk P w K mg base CX0 1 T.a_is_integer T.d_is_integer ["value"] (spB fun _ v => intB v) := ok_is_integer T
  have G_is_name : FnOk P w K mg base CX0 1 T.a_is_name T.d_is_name ["value"] (spB fun _ v => nameB v) := ok_is_name T
  have G_is_set : FnOk P w K mg base CX0 3 T.a_is_set T.d_is_set ["value"] (spB setB) := ok_is_set T
  have G_is_names : FnOk P w K mg base CX0 2 T.a_is_names T.d_is_names ["value"] (spB rowB) := ok_is_names T
  have G_l_is_short : FnOk P w K mg base CX0 1 T.a_l_is_short T.d_l_is_short ["value"] (spB fun _ v => intB v) := ok_is_short T
  have G_l_spelled : FnOk P w K mg base CX0 1 T.a_l_spelled T.d_l_spelled ["value"] (spB fun _ v => nameB v) := ok_spelled T
  have G_l_is_name_set : FnOk P w K mg base CX0 3 T.a_l_is_name_set T.d_l_is_name_set ["value"] (spB setB) := ok_name_set T
  have G_l_is_name_row : FnOk P w K mg base CX0 2 T.a_l_is_name_row T.d_l_is_name_row ["value"] (spB rowB) := ok_name_row T
  refine okG T.F_l_cell_right sc_l_cell_right (fun vs H Q E h => ?_) (fun cdv A outer s H vs Q E gd hr h => ?_)
  · obtain ⟨a, i, ns, rfl, _⟩ := h
    rfl
  · obtain ⟨a, i, ns, rfl, hS, i0, i1, q⟩ := h
    refine ⟨_, (pss_cons (ps_par (i := 2) (j := 3) (by rfl) sc_l_cell_right.nd rfl rfl (by decide) rfl rfl (pa_cons (pe_call G_l_jar (hr.mono (by decide)) (by rfl) T.g_l_jar T.F_l_jar.kp T.b_l_jar .nil pass0 (pa_cons (pv 0) (pa_cons (pv 1) pa_nil))) (pa_cons (pe_op op_add (pe_op op_mul pe_int (pv 1)) pe_int) pa_nil)) (by rfl))
      (pss_cons (ps_if (pt_cmpR op_lt (pv 1) (pe_callB (call_lenK K) (by rfl) T.n_len (by decide +kernel) (pa_cons (pv 0) pa_nil)) (nomark _))
      (pss_one (ps_set (i := 3) sc_l_cell_right.nd rfl (Or.inl rfl) (pe_ix (ix_listK K) (pv 0) (pv 1) (fun _ _ => rfl))))
      pss_nil)
      (pss_cons (ps_set (i := 4) sc_l_cell_right.nd rfl (Or.inl rfl) (pe_op op_cat (pe_op op_cat (pe_call G_l_numbers (hr.mono (by decide)) (by rfl) T.g_l_numbers T.F_l_numbers.kp T.b_l_numbers .nil pass0 (pa_cons (pv 2) (pa_cons (pv 3) pa_nil))) (pe_call G_l_texts (hr.mono (by decide)) (by rfl) T.g_l_texts T.F_l_texts.kp T.b_l_texts .nil pass0 (pa_cons (pv 2) pa_nil))) (pe_call G_l_tuples (hr.mono (by decide)) (by rfl) T.g_l_tuples T.F_l_tuples.kp T.b_l_tuples .nil pass0 (pa_cons (pv 2) pa_nil))))
      (pss_cons (ps_set (i := 4) sc_l_cell_right.nd rfl (Or.inl rfl) (pe_op op_cat (pv 4) (pe_lst (pa_cons pe_bl (pa_cons pe_bl (pa_cons pe_non (pa_cons pe_str (pa_cons (pe_lst pa_nil) (pa_cons pe_dnewK (pa_cons (pe_tup (pa_cons (pe_lst pa_nil) pa_nil)) (pa_cons (pe_tup (pa_cons pe_int pa_nil)) (pa_cons (pe_tup (pa_cons pe_non pa_nil)) (pa_cons (pe_lst (pa_cons pe_int pa_nil)) (pa_cons (pe_disp (pps_cons pe_str pe_int pps_nil) (by rfl) (by rfl) (fun z => by cases z) (by decide)) (pa_cons pe_str (pa_cons pe_str pa_nil))))))))))))))))
      (pss_cons (ps_for PassesOwn.never rfl (pi_range1 (by rfl) T.n_range (pa_cons pe_int pa_nil)) (pg_name (i := 5) sc_l_cell_right.nd rfl (Or.inl rfl))
      (pss_one (ps_for PassesOwn.never rfl (pi_list (pv 4)) (pg_name (i := 6) sc_l_cell_right.nd rfl (Or.inl rfl))
      (pss_cons (ps_set (i := 7) sc_l_cell_right.nd rfl (Or.inl rfl) (pe_lst (pa_cons (pe_call G_is_integer (hr.mono (by decide)) (by rfl) T.g_is_integer T.F_is_integer.kp T.b_is_integer .nil pass0 (pa_cons (pv 6) pa_nil)) (pa_cons (pe_call G_is_name (hr.mono (by decide)) (by rfl) T.g_is_name T.F_is_name.kp T.b_is_name .nil pass0 (pa_cons (pv 6) pa_nil)) (pa_cons (pe_call G_is_set (hr.mono (by decide)) (by rfl) T.g_is_set T.F_is_set.kp T.b_is_set .nil pass0 (pa_cons (pv 6) pa_nil)) (pa_cons (pe_call G_is_names (hr.mono (by decide)) (by rfl) T.g_is_names T.F_is_names.kp T.b_is_names .nil pass0 (pa_cons (pv 6) pa_nil)) pa_nil))))))
      (pss_cons (ps_set (i := 8) sc_l_cell_right.nd rfl (Or.inl rfl) (pe_lst (pa_cons (pe_call G_l_is_short (hr.mono (by decide)) (by rfl) T.g_l_is_short T.F_l_is_short.kp T.b_l_is_short .nil pass0 (pa_cons (pv 6) pa_nil)) (pa_cons (pe_call G_l_spelled (hr.mono (by decide)) (by rfl) T.g_l_spelled T.F_l_spelled.kp T.b_l_spelled .nil pass0 (pa_cons (pv 6) pa_nil)) (pa_cons (pe_call G_l_is_name_set (hr.mono (by decide)) (by rfl) T.g_l_is_name_set T.F_l_is_name_set.kp T.b_l_is_name_set .nil pass0 (pa_cons (pv 6) pa_nil)) (pa_cons (pe_call G_l_is_name_row (hr.mono (by decide)) (by rfl) T.g_l_is_name_row T.F_l_is_name_row.kp T.b_l_is_name_row .nil pass0 (pa_cons (pv 6) pa_nil)) pa_nil))))))
      (pss_one (ps_if (pt_cmpR op_ne (pe_callB (call_reprK K gd hr.units) (by rfl) T.n_repr (by decide +kernel) (pa_cons (pv 7) pa_nil)) (pe_callB (call_reprK K gd hr.units) (by rfl) T.n_repr (by decide +kernel) (pa_cons (pv 8) pa_nil)) (nomark _))
      (pss_one (ps_ret pe_bl))
      pss_nil)))))))
      (pss_one (ps_ret pe_bl))))))), ?_⟩
    refine ⟨_, rfl, _, rfl, a, i, ns, rfl, hS, i0, i1, fun H1 j s1 nj j1 => ⟨_, rfl, _, _, rfl, rfl, .inl ⟨by decide, by decide⟩, _, _, rfl, rfl, _, _, rfl, ?_⟩⟩
    have hS1 : SqL K H1 a (ns.map V.int) := s1.seq hS
    refine ⟨_, rfl, _, rfl, _, ns.map V.int, rfl, .inl hS1, _, _, rfl, rfl, _, rfl, ite2 (fun e => ?_) (fun e => ?_)⟩
    · have e1 : i < (ns.map V.int).length := of_decide_eq_true e
      obtain ⟨cell, hc⟩ := ints_at i0 e1
      refine ⟨_, rfl, _, rfl, _, _, _, _, rfl, rfl, hS1, hc, ?_⟩
      skip
      refine ⟨_, rfl, _, rfl, j, _, rfl, j1, fun H2 l1 xs1 k2 j2 f1 e1' le1 all1 => ⟨_, rfl, j, rfl, j2, fun H3 l2 zs k3 j3 f2 e2' le2 all2 => ?_⟩⟩
      have jl1 := j1.ne f1
      have jl2 := j2.ne f2
      have e13 := k3 _ _ e1' jl1.symm
      refine ⟨l1, l2, xs1, zs.map V.str, rfl, rfl, e13, e2', Nat.le_trans (show xs1.length + (zs.map V.str).length ≤ 200 by rw [List.length_map]; omega) (by decide), fun L3 nL3 => ?_⟩
      have jl3 := j3.ne nL3
      have j4 := j3.upd (o := .lst (xs1 ++ zs.map V.str)) jl3
      refine ⟨_, rfl, j, rfl, j4, fun H5 l5 xs5 k5 j5 f5 e5' le5 all5 => ?_⟩
      have e35 := k5 _ _ (upd_same (H := H3) (a := L3) (o := .lst (xs1 ++ zs.map V.str))) jl3.symm
      refine ⟨L3, l5, xs1 ++ zs.map V.str, xs5, rfl, rfl, e35, e5', Nat.le_trans (show (xs1 ++ zs.map V.str).length + xs5.length ≤ 240 by rw [List.length_append, List.length_map]; omega) (by decide), fun V0 nV0 => ?_⟩
      have k15 : Keep j H1 H5 := ((k2.trans k3).new nL3 _).trans k5
      obtain ⟨H10, e10, s10, a10⟩ := grow0 (o := .lst ((xs1 ++ zs.map V.str) ++ xs5)) nV0
      rw [← e10]
      have start : Same H H10 := (keep_same nj s1 k15).trans s10
      have allV : ∀ x ∈ (xs1 ++ zs.map V.str) ++ xs5, Pl H10 x := by
        intro x m
        rcases List.mem_append.mp m with m | m
        · rcases List.mem_append.mp m with m | m
          · obtain ⟨c, rfl⟩ := all1 x m
            exact .int c
          · obtain ⟨z, hz, rfl⟩ := List.mem_map.mp m
            exact (all2 z hz).pl (by decide)
        · exact ((all5 x m).mono (hide_le j H5)).mono s10
      have lenV : ((xs1 ++ zs.map V.str) ++ xs5).length ≤ 200 := by rw [List.length_append, List.length_append, List.length_map]; omega
      have eV := a10
      generalize (xs1 ++ zs.map V.str) ++ xs5 = VS at allV lenV eV
      have jS := Same.refl H10
      refine ⟨_, rfl, (by show 0 ≤ sizeLine; decide), fun b1 n11 => ?_⟩
      obtain ⟨H11, e11, s11, a11⟩ := grow0 (o := .lst []) n11
      rw [← e11]
      replace jS := jS.trans s11
      replace eV := s11 _ _ eV
      have c_b1 : Pl H11 (.ref b1) := .lst a11
      refine fun b2 n12 => ?_
      obtain ⟨H12, e12, s12, a12⟩ := grow0 (o := .dK []) n12
      rw [← e12]
      replace c_b1 := Pl.mono s12 c_b1
      replace jS := jS.trans s12
      replace eV := s12 _ _ eV
      have c_b2 : Pl H12 (.ref b2) := .dct a12
      refine ⟨(by show 0 ≤ sizeLine; decide), fun b3 n13 => ?_⟩
      obtain ⟨H13, e13, s13, a13⟩ := grow0 (o := .lst []) n13
      rw [← e13]
      replace c_b1 := Pl.mono s13 c_b1
      replace c_b2 := Pl.mono s13 c_b2
      replace jS := jS.trans s13
      replace eV := s13 _ _ eV
      have i_b3 : DaN 1 H13 (.ref b3) := ⟨.list [], .lst a13 .nil, by decide⟩
      refine ⟨(by show 1 ≤ sizeLine; decide), fun b4 n14 => ?_⟩
      obtain ⟨H14, e14, s14, a14⟩ := grow0 (o := .tup [.ref b3]) n14
      rw [← e14]
      replace c_b1 := Pl.mono s14 c_b1
      replace c_b2 := Pl.mono s14 c_b2
      replace jS := jS.trans s14
      replace eV := s14 _ _ eV
      have c_b4 : Pl H14 (.ref b4) := .tup a14 (by show 1 ≤ 50; decide) fun x m => (by rw [List.mem_singleton.mp m]; obtain ⟨d, h1, h2⟩ := i_b3; exact ⟨d, h1.mono s14, Nat.le_trans h2 (by decide)⟩)
      refine ⟨(by show 1 ≤ sizeLine; decide), fun b5 n15 => ?_⟩
      obtain ⟨H15, e15, s15, a15⟩ := grow0 (o := .tup [.int 0]) n15
      rw [← e15]
      replace c_b1 := Pl.mono s15 c_b1
      replace c_b2 := Pl.mono s15 c_b2
      replace c_b4 := Pl.mono s15 c_b4
      replace jS := jS.trans s15
      replace eV := s15 _ _ eV
      have c_b5 : Pl H15 (.ref b5) := .tup a15 (by show 1 ≤ 50; decide) fun x m => (by rw [List.mem_singleton.mp m]; exact ⟨_, .int 0, by decide⟩)
      refine ⟨(by show 1 ≤ sizeLine; decide), fun b6 n16 => ?_⟩
      obtain ⟨H16, e16, s16, a16⟩ := grow0 (o := .tup [.non]) n16
      rw [← e16]
      replace c_b1 := Pl.mono s16 c_b1
      replace c_b2 := Pl.mono s16 c_b2
      replace c_b4 := Pl.mono s16 c_b4
      replace c_b5 := Pl.mono s16 c_b5
      replace jS := jS.trans s16
      replace eV := s16 _ _ eV
      have c_b6 : Pl H16 (.ref b6) := .tup a16 (by show 1 ≤ 50; decide) fun x m => (by rw [List.mem_singleton.mp m]; exact ⟨_, .non, by decide⟩)
      refine ⟨(by show 1 ≤ sizeLine; decide), fun b7 n17 => ?_⟩
      obtain ⟨H17, e17, s17, a17⟩ := grow0 (o := .lst [.int 1]) n17
      rw [← e17]
      replace c_b1 := Pl.mono s17 c_b1
      replace c_b2 := Pl.mono s17 c_b2
      replace c_b4 := Pl.mono s17 c_b4
      replace c_b5 := Pl.mono s17 c_b5
      replace c_b6 := Pl.mono s17 c_b6
      replace jS := jS.trans s17
      replace eV := s17 _ _ eV
      have c_b7 : Pl H17 (.ref b7) := .lst a17
      refine fun b8 n18 => ⟨upd_same, [(Sum.inr "a", .int 1)], rfl, (by show 1 ≤ 15; decide), ?_⟩
      rw [upd_upd]
      obtain ⟨H18, e18, s18, a18⟩ := grow0 (o := .dK (mergeK [] [(Sum.inr "a", .int 1)])) n18
      rw [← e18]
      replace c_b1 := Pl.mono s18 c_b1
      replace c_b2 := Pl.mono s18 c_b2
      replace c_b4 := Pl.mono s18 c_b4
      replace c_b5 := Pl.mono s18 c_b5
      replace c_b6 := Pl.mono s18 c_b6
      replace c_b7 := Pl.mono s18 c_b7
      replace jS := jS.trans s18
      replace eV := s18 _ _ eV
      have c_b8 : Pl H18 (.ref b8) := .dct a18
      refine ⟨(by show 13 ≤ sizeLine; decide), fun B9 n19 => ?_⟩
      obtain ⟨H19, e19, s19, a19⟩ := grow0 (o := .lst [.bl true, .bl false, .non, .str "1", .ref b1, .ref b2, .ref b4, .ref b5, .ref b6, .ref b7, .ref b8, .str "abcdefgh", .str "abcdefghi"]) n19
      rw [← e19]
      replace c_b1 := Pl.mono s19 c_b1
      replace c_b2 := Pl.mono s19 c_b2
      replace c_b4 := Pl.mono s19 c_b4
      replace c_b5 := Pl.mono s19 c_b5
      replace c_b6 := Pl.mono s19 c_b6
      replace c_b7 := Pl.mono s19 c_b7
      replace c_b8 := Pl.mono s19 c_b8
      replace jS := jS.trans s19
      replace eV := s19 _ _ eV
      have l_B9 := a19
      refine ⟨V0, B9, VS, _, rfl, rfl, eV, l_B9, Nat.le_trans (show VS.length + 13 ≤ 300 by omega) (by decide), fun VL n20 => ?_⟩
      obtain ⟨H20, e20, s20, a20⟩ := grow0 (o := .lst (VS ++ [.bl true, .bl false, .non, .str "1", .ref b1, .ref b2, .ref b4, .ref b5, .ref b6, .ref b7, .ref b8, .str "abcdefgh", .str "abcdefghi"])) n20
      rw [← e20]
      replace c_b1 := Pl.mono s20 c_b1
      replace c_b2 := Pl.mono s20 c_b2
      replace c_b4 := Pl.mono s20 c_b4
      replace c_b5 := Pl.mono s20 c_b5
      replace c_b6 := Pl.mono s20 c_b6
      replace c_b7 := Pl.mono s20 c_b7
      replace c_b8 := Pl.mono s20 c_b8
      replace jS := jS.trans s20
      replace eV := s20 _ _ eV
      have l_VL := a20
      have plain : ∀ x ∈ VS ++ [.bl true, .bl false, .non, .str "1", .ref b1, .ref b2, .ref b4, .ref b5, .ref b6, .ref b7, .ref b8, .str "abcdefgh", .str "abcdefghi"], Pl H20 x := by
        intro x m
        rcases List.mem_append.mp m with m | m
        · exact (allV x m).mono jS
        · simp only [List.mem_cons, List.not_mem_nil, or_false] at m
          rcases m with rfl | rfl | rfl | rfl | rfl | rfl | rfl | rfl | rfl | rfl | rfl | rfl | rfl
          · exact .bl true
          · exact .bl false
          · exact .non
          · exact t1.pl (by decide)
          · exact c_b1
          · exact c_b2
          · exact c_b4
          · exact c_b5
          · exact c_b6
          · exact c_b7
          · exact c_b8
          · exact t8.pl (by decide)
          · exact t9.pl (by decide)
      generalize hVL : VS ++ [.bl true, .bl false, .non, .str "1", .ref b1, .ref b2, .ref b4, .ref b5, .ref b6, .ref b7, .ref b8, .str "abcdefgh", .str "abcdefghi"] = VA at plain l_VL
      have startF : Same H H20 := start.trans jS
      refine ⟨2, rfl, by decide, by decide, for_range (lo := 0) (n := 2) (fun _ σ H8 => ∃ (vj vc t5 t6 t7 t8 : Option V), σ = [some (.ref a), some (.int i), vj, vc, some (.ref VL), t5, t6, t7, t8] ∧ Same H20 H8) ?_ ?_ ?_⟩
      · exact ⟨_, _, _, _, _, _, rfl, Same.refl _⟩
      · rintro t σ G0 _ ⟨vj, vc, t5, t6, t7, t8, rfl, g0⟩
        refine ⟨_, rfl, VL, rfl, ⟨_, sq_new (g0 _ _ l_VL)⟩, ?_⟩
        refine for_it (walk_lstV (xs := VA)) (fun _ σ H8 => ∃ (vj vc t5 t6 t7 t8 : Option V), σ = [some (.ref a), some (.int i), vj, vc, some (.ref VL), t5, t6, t7, t8] ∧ Same H20 H8) ?_ ?_ ?_ ?_
        · exact ⟨_, _, _, _, _, _, rfl, g0⟩
        · rintro i8 σ H8 _ ⟨_, _, _, _, _, _, _, g8⟩
          exact sq_new (g8 _ _ l_VL)
        · rintro i8 x σ H8 G1 hi ⟨vj, vc, t5, t6, t7, t8, rfl, g8⟩ ⟨s9, ex⟩
          have g1 := g8.trans s9
          have px : Pl G1 x := (plain x (List.mem_of_getElem? ex)).mono g1
          refine ⟨_, rfl, x, rfl, px, fun G2 r2 => ⟨_, rfl, x, rfl, px.mono r2, fun G3 r3 => ⟨_, rfl, x, rfl, (px.mono r2).mono r3, fun G4 r4 => ⟨_, rfl, x, rfl, ((px.mono r2).mono r3).mono r4, fun G5 r5 => ⟨(by show 4 ≤ sizeLine; decide), fun FD nFD => ?_⟩⟩⟩⟩⟩
          have p3 := (px.mono r2).mono r3
          have p4 := p3.mono r4
          have p5 := p4.mono r5
          obtain ⟨G6, e6, r6, a6⟩ := grow0 (o := .lst [.bl (intB x), .bl (nameB x), .bl (setB G3 x), .bl (rowB G4 x)]) nFD
          rw [← e6]
          have p6 := p5.mono r6
          refine ⟨_, rfl, x, rfl, p6, fun G7 r7 => ⟨_, rfl, x, rfl, p6.mono r7, fun G8 r8 => ⟨_, rfl, x, rfl, (p6.mono r7).mono r8, fun G9 r9 => ⟨_, rfl, x, rfl, ((p6.mono r7).mono r8).mono r9, fun G10 r10 => ⟨(by show 4 ≤ sizeLine; decide), fun DU nDU => ?_⟩⟩⟩⟩⟩
          have t38 : Same G3 G8 := (((r4.trans r5).trans r6).trans r7).trans r8
          have t49 : Same G4 G9 := ((((r5.trans r6).trans r7).trans r8).trans r9)
          have es : setB G8 x = setB G3 x := setB_mono p3 t38
          have er : rowB G9 x = rowB G4 x := rowB_mono p4 t49
          rw [es, er]
          obtain ⟨G11, e11, r11, a11⟩ := grow0 (o := .lst [.bl (intB x), .bl (nameB x), .bl (setB G3 x), .bl (rowB G4 x)]) nDU
          rw [← e11]
          have aF := r11 _ _ (r10 _ _ (r9 _ _ (r8 _ _ (r7 _ _ a6))))
          obtain ⟨w1, w2, w3, w4⟩ := four_ok (intB x) (nameB x) (setB G3 x) (rowB G4 x)
          refine ⟨_, rfl, FD, _, rfl, dp_four aF, w1, w2, w3, w4, _, rfl, DU, _, rfl, dp_four a11, w1, w2, w3, w4, rfl, _, rfl, ite2 (fun e => ?_) (fun e => ?_)⟩
          · rw [decide_eq_true rfl] at e
            cases e
          · refine ⟨_, _, _, _, _, _, rfl, ?_⟩
            exact (((((((((g1.trans r2).trans r3).trans r4).trans r5).trans r6).trans r7).trans r8).trans r9).trans r10).trans r11
        · rintro σ H8 ⟨vj, vc, t5, t6, t7, t8, rfl, g8⟩
          exact ⟨_, _, _, _, _, _, rfl, g8⟩
      · rintro σ H8 ⟨vj, vc, t5, t6, t7, t8, rfl, g8⟩
        exact q _ (startF.trans g8)
    · skip
      refine ⟨_, rfl, _, rfl, j, _, rfl, j1, fun H2 l1 xs1 k2 j2 f1 e1' le1 all1 => ⟨_, rfl, j, rfl, j2, fun H3 l2 zs k3 j3 f2 e2' le2 all2 => ?_⟩⟩
      have jl1 := j1.ne f1
      have jl2 := j2.ne f2
      have e13 := k3 _ _ e1' jl1.symm
      refine ⟨l1, l2, xs1, zs.map V.str, rfl, rfl, e13, e2', Nat.le_trans (show xs1.length + (zs.map V.str).length ≤ 200 by rw [List.length_map]; omega) (by decide), fun L3 nL3 => ?_⟩
      have jl3 := j3.ne nL3
      have j4 := j3.upd (o := .lst (xs1 ++ zs.map V.str)) jl3
      refine ⟨_, rfl, j, rfl, j4, fun H5 l5 xs5 k5 j5 f5 e5' le5 all5 => ?_⟩
      have e35 := k5 _ _ (upd_same (H := H3) (a := L3) (o := .lst (xs1 ++ zs.map V.str))) jl3.symm
      refine ⟨L3, l5, xs1 ++ zs.map V.str, xs5, rfl, rfl, e35, e5', Nat.le_trans (show (xs1 ++ zs.map V.str).length + xs5.length ≤ 240 by rw [List.length_append, List.length_map]; omega) (by decide), fun V0 nV0 => ?_⟩
      have k15 : Keep j H1 H5 := ((k2.trans k3).new nL3 _).trans k5
      obtain ⟨H10, e10, s10, a10⟩ := grow0 (o := .lst ((xs1 ++ zs.map V.str) ++ xs5)) nV0
      rw [← e10]
      have start : Same H H10 := (keep_same nj s1 k15).trans s10
      have allV : ∀ x ∈ (xs1 ++ zs.map V.str) ++ xs5, Pl H10 x := by
        intro x m
        rcases List.mem_append.mp m with m | m
        · rcases List.mem_append.mp m with m | m
          · obtain ⟨c, rfl⟩ := all1 x m
            exact .int c
          · obtain ⟨z, hz, rfl⟩ := List.mem_map.mp m
            exact (all2 z hz).pl (by decide)
        · exact ((all5 x m).mono (hide_le j H5)).mono s10
      have lenV : ((xs1 ++ zs.map V.str) ++ xs5).length ≤ 200 := by rw [List.length_append, List.length_append, List.length_map]; omega
      have eV := a10
      generalize (xs1 ++ zs.map V.str) ++ xs5 = VS at allV lenV eV
      have jS := Same.refl H10
      refine ⟨_, rfl, (by show 0 ≤ sizeLine; decide), fun b1 n11 => ?_⟩
      obtain ⟨H11, e11, s11, a11⟩ := grow0 (o := .lst []) n11
      rw [← e11]
      replace jS := jS.trans s11
      replace eV := s11 _ _ eV
      have c_b1 : Pl H11 (.ref b1) := .lst a11
      refine fun b2 n12 => ?_
      obtain ⟨H12, e12, s12, a12⟩ := grow0 (o := .dK []) n12
      rw [← e12]
      replace c_b1 := Pl.mono s12 c_b1
      replace jS := jS.trans s12
      replace eV := s12 _ _ eV
      have c_b2 : Pl H12 (.ref b2) := .dct a12
      refine ⟨(by show 0 ≤ sizeLine; decide), fun b3 n13 => ?_⟩
      obtain ⟨H13, e13, s13, a13⟩ := grow0 (o := .lst []) n13
      rw [← e13]
      replace c_b1 := Pl.mono s13 c_b1
      replace c_b2 := Pl.mono s13 c_b2
      replace jS := jS.trans s13
      replace eV := s13 _ _ eV
      have i_b3 : DaN 1 H13 (.ref b3) := ⟨.list [], .lst a13 .nil, by decide⟩
      refine ⟨(by show 1 ≤ sizeLine; decide), fun b4 n14 => ?_⟩
      obtain ⟨H14, e14, s14, a14⟩ := grow0 (o := .tup [.ref b3]) n14
      rw [← e14]
      replace c_b1 := Pl.mono s14 c_b1
      replace c_b2 := Pl.mono s14 c_b2
      replace jS := jS.trans s14
      replace eV := s14 _ _ eV
      have c_b4 : Pl H14 (.ref b4) := .tup a14 (by show 1 ≤ 50; decide) fun x m => (by rw [List.mem_singleton.mp m]; obtain ⟨d, h1, h2⟩ := i_b3; exact ⟨d, h1.mono s14, Nat.le_trans h2 (by decide)⟩)
      refine ⟨(by show 1 ≤ sizeLine; decide), fun b5 n15 => ?_⟩
      obtain ⟨H15, e15, s15, a15⟩ := grow0 (o := .tup [.int 0]) n15
      rw [← e15]
      replace c_b1 := Pl.mono s15 c_b1
      replace c_b2 := Pl.mono s15 c_b2
      replace c_b4 := Pl.mono s15 c_b4
      replace jS := jS.trans s15
      replace eV := s15 _ _ eV
      have c_b5 : Pl H15 (.ref b5) := .tup a15 (by show 1 ≤ 50; decide) fun x m => (by rw [List.mem_singleton.mp m]; exact ⟨_, .int 0, by decide⟩)
      refine ⟨(by show 1 ≤ sizeLine; decide), fun b6 n16 => ?_⟩
      obtain ⟨H16, e16, s16, a16⟩ := grow0 (o := .tup [.non]) n16
      rw [← e16]
      replace c_b1 := Pl.mono s16 c_b1
      replace c_b2 := Pl.mono s16 c_b2
      replace c_b4 := Pl.mono s16 c_b4
      replace c_b5 := Pl.mono s16 c_b5
      replace jS := jS.trans s16
      replace eV := s16 _ _ eV
      have c_b6 : Pl H16 (.ref b6) := .tup a16 (by show 1 ≤ 50; decide) fun x m => (by rw [List.mem_singleton.mp m]; exact ⟨_, .non, by decide⟩)
      refine ⟨(by show 1 ≤ sizeLine; decide), fun b7 n17 => ?_⟩
      obtain ⟨H17, e17, s17, a17⟩ := grow0 (o := .lst [.int 1]) n17
      rw [← e17]
      replace c_b1 := Pl.mono s17 c_b1
      replace c_b2 := Pl.mono s17 c_b2
      replace c_b4 := Pl.mono s17 c_b4
      replace c_b5 := Pl.mono s17 c_b5
      replace c_b6 := Pl.mono s17 c_b6
      replace jS := jS.trans s17
      replace eV := s17 _ _ eV
      have c_b7 : Pl H17 (.ref b7) := .lst a17
      refine fun b8 n18 => ⟨upd_same, [(Sum.inr "a", .int 1)], rfl, (by show 1 ≤ 15; decide), ?_⟩
      rw [upd_upd]
      obtain ⟨H18, e18, s18, a18⟩ := grow0 (o := .dK (mergeK [] [(Sum.inr "a", .int 1)])) n18
      rw [← e18]
      replace c_b1 := Pl.mono s18 c_b1
      replace c_b2 := Pl.mono s18 c_b2
      replace c_b4 := Pl.mono s18 c_b4
      replace c_b5 := Pl.mono s18 c_b5
      replace c_b6 := Pl.mono s18 c_b6
      replace c_b7 := Pl.mono s18 c_b7
      replace jS := jS.trans s18
      replace eV := s18 _ _ eV
      have c_b8 : Pl H18 (.ref b8) := .dct a18
      refine ⟨(by show 13 ≤ sizeLine; decide), fun B9 n19 => ?_⟩
      obtain ⟨H19, e19, s19, a19⟩ := grow0 (o := .lst [.bl true, .bl false, .non, .str "1", .ref b1, .ref b2, .ref b4, .ref b5, .ref b6, .ref b7, .ref b8, .str "abcdefgh", .str "abcdefghi"]) n19
      rw [← e19]
      replace c_b1 := Pl.mono s19 c_b1
      replace c_b2 := Pl.mono s19 c_b2
      replace c_b4 := Pl.mono s19 c_b4
      replace c_b5 := Pl.mono s19 c_b5
      replace c_b6 := Pl.mono s19 c_b6
      replace c_b7 := Pl.mono s19 c_b7
      replace c_b8 := Pl.mono s19 c_b8
      replace jS := jS.trans s19
      replace eV := s19 _ _ eV
      have l_B9 := a19
      refine ⟨V0, B9, VS, _, rfl, rfl, eV, l_B9, Nat.le_trans (show VS.length + 13 ≤ 300 by omega) (by decide), fun VL n20 => ?_⟩
      obtain ⟨H20, e20, s20, a20⟩ := grow0 (o := .lst (VS ++ [.bl true, .bl false, .non, .str "1", .ref b1, .ref b2, .ref b4, .ref b5, .ref b6, .ref b7, .ref b8, .str "abcdefgh", .str "abcdefghi"])) n20
      rw [← e20]
      replace c_b1 := Pl.mono s20 c_b1
      replace c_b2 := Pl.mono s20 c_b2
      replace c_b4 := Pl.mono s20 c_b4
      replace c_b5 := Pl.mono s20 c_b5
      replace c_b6 := Pl.mono s20 c_b6
      replace c_b7 := Pl.mono s20 c_b7
      replace c_b8 := Pl.mono s20 c_b8
      replace jS := jS.trans s20
      replace eV := s20 _ _ eV
      have l_VL := a20
      have plain : ∀ x ∈ VS ++ [.bl true, .bl false, .non, .str "1", .ref b1, .ref b2, .ref b4, .ref b5, .ref b6, .ref b7, .ref b8, .str "abcdefgh", .str "abcdefghi"], Pl H20 x := by
        intro x m
        rcases List.mem_append.mp m with m | m
        · exact (allV x m).mono jS
        · simp only [List.mem_cons, List.not_mem_nil, or_false] at m
          rcases m with rfl | rfl | rfl | rfl | rfl | rfl | rfl | rfl | rfl | rfl | rfl | rfl | rfl
          · exact .bl true
          · exact .bl false
          · exact .non
          · exact t1.pl (by decide)
          · exact c_b1
          · exact c_b2
          · exact c_b4
          · exact c_b5
          · exact c_b6
          · exact c_b7
          · exact c_b8
          · exact t8.pl (by decide)
          · exact t9.pl (by decide)
      generalize hVL : VS ++ [.bl true, .bl false, .non, .str "1", .ref b1, .ref b2, .ref b4, .ref b5, .ref b6, .ref b7, .ref b8, .str "abcdefgh", .str "abcdefghi"] = VA at plain l_VL
      have startF : Same H H20 := start.trans jS
      refine ⟨2, rfl, by decide, by decide, for_range (lo := 0) (n := 2) (fun _ σ H8 => ∃ (vj vc t5 t6 t7 t8 : Option V), σ = [some (.ref a), some (.int i), vj, vc, some (.ref VL), t5, t6, t7, t8] ∧ Same H20 H8) ?_ ?_ ?_⟩
      · exact ⟨_, _, _, _, _, _, rfl, Same.refl _⟩
      · rintro t σ G0 _ ⟨vj, vc, t5, t6, t7, t8, rfl, g0⟩
        refine ⟨_, rfl, VL, rfl, ⟨_, sq_new (g0 _ _ l_VL)⟩, ?_⟩
        refine for_it (walk_lstV (xs := VA)) (fun _ σ H8 => ∃ (vj vc t5 t6 t7 t8 : Option V), σ = [some (.ref a), some (.int i), vj, vc, some (.ref VL), t5, t6, t7, t8] ∧ Same H20 H8) ?_ ?_ ?_ ?_
        · exact ⟨_, _, _, _, _, _, rfl, g0⟩
        · rintro i8 σ H8 _ ⟨_, _, _, _, _, _, _, g8⟩
          exact sq_new (g8 _ _ l_VL)
        · rintro i8 x σ H8 G1 hi ⟨vj, vc, t5, t6, t7, t8, rfl, g8⟩ ⟨s9, ex⟩
          have g1 := g8.trans s9
          have px : Pl G1 x := (plain x (List.mem_of_getElem? ex)).mono g1
          refine ⟨_, rfl, x, rfl, px, fun G2 r2 => ⟨_, rfl, x, rfl, px.mono r2, fun G3 r3 => ⟨_, rfl, x, rfl, (px.mono r2).mono r3, fun G4 r4 => ⟨_, rfl, x, rfl, ((px.mono r2).mono r3).mono r4, fun G5 r5 => ⟨(by show 4 ≤ sizeLine; decide), fun FD nFD => ?_⟩⟩⟩⟩⟩
          have p3 := (px.mono r2).mono r3
          have p4 := p3.mono r4
          have p5 := p4.mono r5
          obtain ⟨G6, e6, r6, a6⟩ := grow0 (o := .lst [.bl (intB x), .bl (nameB x), .bl (setB G3 x), .bl (rowB G4 x)]) nFD
          rw [← e6]
          have p6 := p5.mono r6
          refine ⟨_, rfl, x, rfl, p6, fun G7 r7 => ⟨_, rfl, x, rfl, p6.mono r7, fun G8 r8 => ⟨_, rfl, x, rfl, (p6.mono r7).mono r8, fun G9 r9 => ⟨_, rfl, x, rfl, ((p6.mono r7).mono r8).mono r9, fun G10 r10 => ⟨(by show 4 ≤ sizeLine; decide), fun DU nDU => ?_⟩⟩⟩⟩⟩
          have t38 : Same G3 G8 := (((r4.trans r5).trans r6).trans r7).trans r8
          have t49 : Same G4 G9 := ((((r5.trans r6).trans r7).trans r8).trans r9)
          have es : setB G8 x = setB G3 x := setB_mono p3 t38
          have er : rowB G9 x = rowB G4 x := rowB_mono p4 t49
          rw [es, er]
          obtain ⟨G11, e11, r11, a11⟩ := grow0 (o := .lst [.bl (intB x), .bl (nameB x), .bl (setB G3 x), .bl (rowB G4 x)]) nDU
          rw [← e11]
          have aF := r11 _ _ (r10 _ _ (r9 _ _ (r8 _ _ (r7 _ _ a6))))
          obtain ⟨w1, w2, w3, w4⟩ := four_ok (intB x) (nameB x) (setB G3 x) (rowB G4 x)
          refine ⟨_, rfl, FD, _, rfl, dp_four aF, w1, w2, w3, w4, _, rfl, DU, _, rfl, dp_four a11, w1, w2, w3, w4, rfl, _, rfl, ite2 (fun e => ?_) (fun e => ?_)⟩
          · rw [decide_eq_true rfl] at e
            cases e
          · refine ⟨_, _, _, _, _, _, rfl, ?_⟩
            exact (((((((((g1.trans r2).trans r3).trans r4).trans r5).trans r6).trans r7).trans r8).trans r9).trans r10).trans r11
        · rintro σ H8 ⟨vj, vc, t5, t6, t7, t8, rfl, g8⟩
          exact ⟨_, _, _, _, _, _, rfl, g8⟩
      · rintro σ H8 ⟨vj, vc, t5, t6, t7, t8, rfl, g8⟩
        exact q _ (startF.trans g8)
end
/-! D15 -/

def spLaw (K : PySem.W.Frag) : Sp := fun vs H Q _ => ∃ (a : Addr) (ns : List Int), vs = [.ref a] ∧ SqL K H a (ns.map V.int) ∧ ns.length ≤ 63 ∧ ∀ H', Q (.bl true) H'
section
variable {P : Program} {w : World} {K : PySem.W.Frag} {mg : Str → Option Value} {base : Heap}
theorem ok_law (T : Tx K mg) : FnG P w K mg base CX0 6 T.a_law T.d_law ["script"] (spLaw K) := by
  have G_l_cell_right : FnG P w K mg base CX0 5 T.a_l_cell_right T.d_l_cell_right ["script", "at"] (spCell K) := ok_cell T
  refine okG T.F_law sc_law (fun vs H Q E h => ?_) (fun cdv A outer s H vs Q E gd hr h => ?_)
  · obtain ⟨a, ns, rfl, _⟩ := h
    rfl
  · obtain ⟨a, ns, rfl, hS, hl, q⟩ := h
    refine ⟨_, (pss_cons (ps_if (pt_cmpR op_ne (pe_glob (v := .int 8) rfl T.v_MAX_LETTERS ⟨_, rfl⟩) pe_int (nomark _))
      (pss_one (ps_ret pe_bl))
      pss_nil)
      (pss_cons (ps_for PassesOwn.never rfl (pi_range1 (by rfl) T.n_range (pa_cons (pe_callB (call_max2 rfl) (by rfl) T.n_max (by decide +kernel) (pa_cons pe_int (pa_cons (pe_callB (call_min2 rfl) (by rfl) T.n_min (by decide +kernel) (pa_cons pe_int (pa_cons (pe_callB (call_lenK K) (by rfl) T.n_len (by decide +kernel) (pa_cons (pv 0) pa_nil)) pa_nil))) pa_nil))) pa_nil)) (pg_name (i := 1) sc_law.nd rfl (Or.inl rfl))
      (pss_one (ps_if (pt_not (pt_val (pe_callG G_l_cell_right gd (hr.mono (by decide)) (by rfl) T.g_l_cell_right T.F_l_cell_right.kp T.b_l_cell_right .nil pass0 (pa_cons (pv 0) (pa_cons (pv 1) pa_nil)))))
      (pss_one (ps_ret pe_bl))
      pss_nil)))
      (pss_one (ps_ret pe_bl)))), ?_⟩
    refine ⟨rfl, _, rfl, ite2 (fun e => ?_) (fun e => ?_)⟩
    · rw [decide_eq_true rfl] at e
      cases e
    · have hm : (ns.map V.int).length ≤ 63 := by rw [List.length_map]; exact hl
      generalize hN : (if (if ((ns.map V.int).length : Int) < 8 then ((ns.map V.int).length : Int) else 8) > 1 then (if ((ns.map V.int).length : Int) < 8 then ((ns.map V.int).length : Int) else 8) else (1 : Int)) = N
      have n0 : 0 ≤ N := by rw [← hN]; split <;> split <;> omega
      have n1 : N ≤ 8 := by rw [← hN]; split <;> split <;> omega
      refine ⟨_, rfl, a, ns.map V.int, rfl, .inl hS, _, _, rfl, _, _, rfl, N, by rw [← hN], by omega, by omega, ?_⟩
      have go : ∀ n : Nat, n ≤ 8 → tFor (fun σ H R => R (Itr 0 n) H) (gName 1)
            (tIfS (tNot (tB (tCall (spCell K) [] E (tCons (tVar 0) (tCons (tVar 1) tNil))))) (tRet (tC (.bl false)))
              tNext) { nx := fun σ' H' => tRet (tC (.bl true)) { nx := fun _ H' => Q .non H', rt := Q } σ' H', rt := Q } (start ["script", "at"] [.ref a]) H := by
        intro n n8
        refine for_range (lo := 0) (n := n) (fun _ σ H8 => ∃ (t : Option V), σ = [some (.ref a), t] ∧ Same H H8) ?_ ?_ ?_
        · exact ⟨_, rfl, Same.refl _⟩
        · rintro t σ G0 lt ⟨t1, rfl, g0⟩
          have bt : (0 : Int) ≤ 0 + (t : Int) ∧ 0 + (t : Int) ≤ 1000000 := by omega
          refine ⟨_, rfl, _, rfl, a, _, ns, rfl, g0.seq hS, bt.1, bt.2, fun H9 s9 => ?_⟩
          refine ⟨_, rfl, ite2 (fun e => ?_) (fun e => ?_)⟩
          · cases e
          · exact ⟨_, rfl, g0.trans s9⟩
        · rintro σ H8 ⟨t, rfl, g8⟩
          exact q _
      exact go _ (by omega)
end
end W0
/-! D16 -/
set_option Elab.async false
set_option linter.all false
set_option maxRecDepth 100000
set_option maxHeartbeats 4000000
namespace W0
open PySem PySem.Spec PyProof.Rows L2 Gd
theorem mk_T {K : PySem.W.Frag} {h : Heap} {mg : Str → Option Value} {fa : Addr} (X : K.In h) (G : h.Ns mainGlobals mg) (hfa : mg "law" = some (.ref fa))
    {f0 : Addr} {oc0 kV0 dc0 pm0 cd0 ct0 : Value} {od0 an0 : Option Addr} {sl0 : Array (Option Value)}
    {f1 : Addr} {oc1 kV1 dc1 pm1 cd1 ct1 : Value} {od1 an1 : Option Addr} {sl1 : Array (Option Value)}
    {f2 : Addr} {oc2 kV2 dc2 pm2 cd2 ct2 : Value} {od2 an2 : Option Addr} {sl2 : Array (Option Value)}
    {f3 : Addr} {oc3 kV3 dc3 pm3 cd3 ct3 : Value} {od3 an3 : Option Addr} {sl3 : Array (Option Value)}
    {f4 : Addr} {oc4 kV4 dc4 pm4 cd4 ct4 : Value} {od4 an4 : Option Addr} {sl4 : Array (Option Value)}
    {f5 : Addr} {oc5 kV5 dc5 pm5 cd5 ct5 : Value} {od5 an5 : Option Addr} {sl5 : Array (Option Value)}
    {f6 : Addr} {oc6 kV6 dc6 pm6 cd6 ct6 : Value} {od6 an6 : Option Addr} {sl6 : Array (Option Value)}
    {f7 : Addr} {oc7 kV7 dc7 pm7 cd7 ct7 : Value} {od7 an7 : Option Addr} {sl7 : Array (Option Value)}
    {f8 : Addr} {oc8 kV8 dc8 pm8 cd8 ct8 : Value} {od8 an8 : Option Addr} {sl8 : Array (Option Value)}
    {f9 : Addr} {oc9 kV9 dc9 pm9 cd9 ct9 : Value} {od9 an9 : Option Addr} {sl9 : Array (Option Value)}
    {f10 : Addr} {oc10 kV10 dc10 pm10 cd10 ct10 : Value} {od10 an10 : Option Addr} {sl10 : Array (Option Value)}
    {f11 : Addr} {oc11 kV11 dc11 pm11 cd11 ct11 : Value} {od11 an11 : Option Addr} {sl11 : Array (Option Value)}
    {f12 : Addr} {oc12 kV12 dc12 pm12 cd12 ct12 : Value} {od12 an12 : Option Addr} {sl12 : Array (Option Value)}
    {f13 : Addr} {oc13 kV13 dc13 pm13 cd13 ct13 : Value} {od13 an13 : Option Addr} {sl13 : Array (Option Value)}
    {f14 : Addr} {oc14 kV14 dc14 pm14 cd14 ct14 : Value} {od14 an14 : Option Addr} {sl14 : Array (Option Value)}
    {f15 : Addr} {oc15 kV15 dc15 pm15 cd15 ct15 : Value} {od15 an15 : Option Addr} {sl15 : Array (Option Value)}
    {f16 : Addr} {oc16 kV16 dc16 pm16 cd16 ct16 : Value} {od16 an16 : Option Addr} {sl16 : Array (Option Value)}
    {f17 : Addr} {oc17 kV17 dc17 pm17 cd17 ct17 : Value} {od17 an17 : Option Addr} {sl17 : Array (Option Value)}
    {f18 : Addr} {oc18 kV18 dc18 pm18 cd18 ct18 : Value} {od18 an18 : Option Addr} {sl18 : Array (Option Value)}
    {t_MAX_LETTERS : Tok}
    (a0 : PySem.W.nsIn K mainGlobals "is_integer" = some (some (.ref f0)))
    (l0 : K.lookup f0 = some ⟨oc0, od0, .func (PySem.W.fnOf "is_integer" "is_integer" (defArgs s_is_integer) (defBody s_is_integer) (defScope s_is_integer) .none kV0 dc0 pm0 an0 cd0 ct0), sl0⟩) (c0 : PySem.W.codeIn K cd0 "is_integer" = true) (k0 : PySem.W.keepIn K (.ref f0) = true)
    (a1 : PySem.W.nsIn K mainGlobals "is_name" = some (some (.ref f1)))
    (l1 : K.lookup f1 = some ⟨oc1, od1, .func (PySem.W.fnOf "is_name" "is_name" (defArgs s_is_name) (defBody s_is_name) (defScope s_is_name) .none kV1 dc1 pm1 an1 cd1 ct1), sl1⟩) (c1 : PySem.W.codeIn K cd1 "is_name" = true) (k1 : PySem.W.keepIn K (.ref f1) = true)
    (a2 : PySem.W.nsIn K mainGlobals "is_set" = some (some (.ref f2)))
    (l2 : K.lookup f2 = some ⟨oc2, od2, .func (PySem.W.fnOf "is_set" "is_set" (defArgs s_is_set) (defBody s_is_set) (defScope s_is_set) .none kV2 dc2 pm2 an2 cd2 ct2), sl2⟩) (c2 : PySem.W.codeIn K cd2 "is_set" = true) (k2 : PySem.W.keepIn K (.ref f2) = true)
    (a3 : PySem.W.nsIn K mainGlobals "is_names" = some (some (.ref f3)))
    (l3 : K.lookup f3 = some ⟨oc3, od3, .func (PySem.W.fnOf "is_names" "is_names" (defArgs s_is_names) (defBody s_is_names) (defScope s_is_names) .none kV3 dc3 pm3 an3 cd3 ct3), sl3⟩) (c3 : PySem.W.codeIn K cd3 "is_names" = true) (k3 : PySem.W.keepIn K (.ref f3) = true)
    (a4 : PySem.W.nsIn K mainGlobals "_law_jar" = some (some (.ref f4)))
    (l4 : K.lookup f4 = some ⟨oc4, od4, .func (PySem.W.fnOf "_law_jar" "_law_jar" (defArgs s_l_jar) (defBody s_l_jar) (defScope s_l_jar) .none kV4 dc4 pm4 an4 cd4 ct4), sl4⟩) (c4 : PySem.W.codeIn K cd4 "_law_jar" = true) (k4 : PySem.W.keepIn K (.ref f4) = true)
    (a5 : PySem.W.nsIn K mainGlobals "_law_sip" = some (some (.ref f5)))
    (l5 : K.lookup f5 = some ⟨oc5, od5, .func (PySem.W.fnOf "_law_sip" "_law_sip" (defArgs s_l_sip) (defBody s_l_sip) (defScope s_l_sip) .none kV5 dc5 pm5 an5 cd5 ct5), sl5⟩) (c5 : PySem.W.codeIn K cd5 "_law_sip" = true) (k5 : PySem.W.keepIn K (.ref f5) = true)
    (a6 : PySem.W.nsIn K mainGlobals "_law_which" = some (some (.ref f6)))
    (l6 : K.lookup f6 = some ⟨oc6, od6, .func (PySem.W.fnOf "_law_which" "_law_which" (defArgs s_l_which) (defBody s_l_which) (defScope s_l_which) .none kV6 dc6 pm6 an6 cd6 ct6), sl6⟩) (c6 : PySem.W.codeIn K cd6 "_law_which" = true) (k6 : PySem.W.keepIn K (.ref f6) = true)
    (a7 : PySem.W.nsIn K mainGlobals "_law_mixed" = some (some (.ref f7)))
    (l7 : K.lookup f7 = some ⟨oc7, od7, .func (PySem.W.fnOf "_law_mixed" "_law_mixed" (defArgs s_l_mixed) (defBody s_l_mixed) (defScope s_l_mixed) .none kV7 dc7 pm7 an7 cd7 ct7), sl7⟩) (c7 : PySem.W.codeIn K cd7 "_law_mixed" = true) (k7 : PySem.W.keepIn K (.ref f7) = true)
    (a8 : PySem.W.nsIn K mainGlobals "_law_letter" = some (some (.ref f8)))
    (l8 : K.lookup f8 = some ⟨oc8, od8, .func (PySem.W.fnOf "_law_letter" "_law_letter" (defArgs s_l_letter) (defBody s_l_letter) (defScope s_l_letter) .none kV8 dc8 pm8 an8 cd8 ct8), sl8⟩) (c8 : PySem.W.codeIn K cd8 "_law_letter" = true) (k8 : PySem.W.keepIn K (.ref f8) = true)
    (a9 : PySem.W.nsIn K mainGlobals "_law_many_names" = some (some (.ref f9)))
    (l9 : K.lookup f9 = some ⟨oc9, od9, .func (PySem.W.fnOf "_law_many_names" "_law_many_names" (defArgs s_l_many_names) (defBody s_l_many_names) (defScope s_l_many_names) .none kV9 dc9 pm9 an9 cd9 ct9), sl9⟩) (c9 : PySem.W.codeIn K cd9 "_law_many_names" = true) (k9 : PySem.W.keepIn K (.ref f9) = true)
    (a10 : PySem.W.nsIn K mainGlobals "_law_spelled" = some (some (.ref f10)))
    (l10 : K.lookup f10 = some ⟨oc10, od10, .func (PySem.W.fnOf "_law_spelled" "_law_spelled" (defArgs s_l_spelled) (defBody s_l_spelled) (defScope s_l_spelled) .none kV10 dc10 pm10 an10 cd10 ct10), sl10⟩) (c10 : PySem.W.codeIn K cd10 "_law_spelled" = true) (k10 : PySem.W.keepIn K (.ref f10) = true)
    (a11 : PySem.W.nsIn K mainGlobals "_law_is_name_row" = some (some (.ref f11)))
    (l11 : K.lookup f11 = some ⟨oc11, od11, .func (PySem.W.fnOf "_law_is_name_row" "_law_is_name_row" (defArgs s_l_is_name_row) (defBody s_l_is_name_row) (defScope s_l_is_name_row) .none kV11 dc11 pm11 an11 cd11 ct11), sl11⟩) (c11 : PySem.W.codeIn K cd11 "_law_is_name_row" = true) (k11 : PySem.W.keepIn K (.ref f11) = true)
    (a12 : PySem.W.nsIn K mainGlobals "_law_is_name_set" = some (some (.ref f12)))
    (l12 : K.lookup f12 = some ⟨oc12, od12, .func (PySem.W.fnOf "_law_is_name_set" "_law_is_name_set" (defArgs s_l_is_name_set) (defBody s_l_is_name_set) (defScope s_l_is_name_set) .none kV12 dc12 pm12 an12 cd12 ct12), sl12⟩) (c12 : PySem.W.codeIn K cd12 "_law_is_name_set" = true) (k12 : PySem.W.keepIn K (.ref f12) = true)
    (a13 : PySem.W.nsIn K mainGlobals "_law_is_short" = some (some (.ref f13)))
    (l13 : K.lookup f13 = some ⟨oc13, od13, .func (PySem.W.fnOf "_law_is_short" "_law_is_short" (defArgs s_l_is_short) (defBody s_l_is_short) (defScope s_l_is_short) .none kV13 dc13 pm13 an13 cd13 ct13), sl13⟩) (c13 : PySem.W.codeIn K cd13 "_law_is_short" = true) (k13 : PySem.W.keepIn K (.ref f13) = true)
    (a14 : PySem.W.nsIn K mainGlobals "_law_numbers" = some (some (.ref f14)))
    (l14 : K.lookup f14 = some ⟨oc14, od14, .func (PySem.W.fnOf "_law_numbers" "_law_numbers" (defArgs s_l_numbers) (defBody s_l_numbers) (defScope s_l_numbers) .none kV14 dc14 pm14 an14 cd14 ct14), sl14⟩) (c14 : PySem.W.codeIn K cd14 "_law_numbers" = true) (k14 : PySem.W.keepIn K (.ref f14) = true)
    (a15 : PySem.W.nsIn K mainGlobals "_law_texts" = some (some (.ref f15)))
    (l15 : K.lookup f15 = some ⟨oc15, od15, .func (PySem.W.fnOf "_law_texts" "_law_texts" (defArgs s_l_texts) (defBody s_l_texts) (defScope s_l_texts) .none kV15 dc15 pm15 an15 cd15 ct15), sl15⟩) (c15 : PySem.W.codeIn K cd15 "_law_texts" = true) (k15 : PySem.W.keepIn K (.ref f15) = true)
    (a16 : PySem.W.nsIn K mainGlobals "_law_tuples" = some (some (.ref f16)))
    (l16 : K.lookup f16 = some ⟨oc16, od16, .func (PySem.W.fnOf "_law_tuples" "_law_tuples" (defArgs s_l_tuples) (defBody s_l_tuples) (defScope s_l_tuples) .none kV16 dc16 pm16 an16 cd16 ct16), sl16⟩) (c16 : PySem.W.codeIn K cd16 "_law_tuples" = true) (k16 : PySem.W.keepIn K (.ref f16) = true)
    (a17 : PySem.W.nsIn K mainGlobals "_law_cell_right" = some (some (.ref f17)))
    (l17 : K.lookup f17 = some ⟨oc17, od17, .func (PySem.W.fnOf "_law_cell_right" "_law_cell_right" (defArgs s_l_cell_right) (defBody s_l_cell_right) (defScope s_l_cell_right) .none kV17 dc17 pm17 an17 cd17 ct17), sl17⟩) (c17 : PySem.W.codeIn K cd17 "_law_cell_right" = true) (k17 : PySem.W.keepIn K (.ref f17) = true)
    (a18 : PySem.W.nsIn K mainGlobals "law" = some (some (.ref f18)))
    (l18 : K.lookup f18 = some ⟨oc18, od18, .func (PySem.W.fnOf "law" "law" (defArgs s_law) (defBody s_law) (defScope s_law) .none kV18 dc18 pm18 an18 cd18 ct18), sl18⟩) (c18 : PySem.W.codeIn K cd18 "law" = true) (k18 : PySem.W.keepIn K (.ref f18) = true)
    (z0 : PySem.W.nsIn K mainGlobals "abs" = some none)
    (z1 : PySem.W.nsIn K mainGlobals "isinstance" = some none)
    (z2 : PySem.W.nsIn K mainGlobals "bool" = some none)
    (z3 : PySem.W.nsIn K mainGlobals "int" = some none)
    (z4 : PySem.W.nsIn K mainGlobals "all" = some none)
    (z5 : PySem.W.nsIn K mainGlobals "len" = some none)
    (z6 : PySem.W.nsIn K mainGlobals "str" = some none)
    (z7 : PySem.W.nsIn K mainGlobals "zip" = some none)
    (z8 : PySem.W.nsIn K mainGlobals "tuple" = some none)
    (z9 : PySem.W.nsIn K mainGlobals "max" = some none)
    (z10 : PySem.W.nsIn K mainGlobals "range" = some none)
    (z11 : PySem.W.nsIn K mainGlobals "list" = some none)
    (z12 : PySem.W.nsIn K mainGlobals "sorted" = some none)
    (z13 : PySem.W.nsIn K mainGlobals "set" = some none)
    (z14 : PySem.W.nsIn K mainGlobals "repr" = some none)
    (z15 : PySem.W.nsIn K mainGlobals "min" = some none)
    (v_MAX_LETTERS : PySem.W.nsIn K mainGlobals "MAX_LETTERS" = some (some (.int 8 t_MAX_LETTERS)))
    : ∃ T : Tx K mg, T.a_law = fa ∧ ∀ (s : Shared) (v : Value), BindsTo s T.d_law ⟨[v], []⟩ [("script", v)] := by
  have e := hfa.symm.trans (PySem.W.mg_of X G a18)
  have e2 : f18 = fa := by cases e; rfl
  subst e2
  have F0 := fun_mk (st := s_is_integer) l0 c0 k0
  have b0 := F0.binds (ps := ["value"]) fun _ _ _ _ _ _ us hl => match us, hl with | [_], _ => rfl
  have F1 := fun_mk (st := s_is_name) l1 c1 k1
  have b1 := F1.binds (ps := ["value"]) fun _ _ _ _ _ _ us hl => match us, hl with | [_], _ => rfl
  have F2 := fun_mk (st := s_is_set) l2 c2 k2
  have b2 := F2.binds (ps := ["value"]) fun _ _ _ _ _ _ us hl => match us, hl with | [_], _ => rfl
  have F3 := fun_mk (st := s_is_names) l3 c3 k3
  have b3 := F3.binds (ps := ["value"]) fun _ _ _ _ _ _ us hl => match us, hl with | [_], _ => rfl
  have F4 := fun_mk (st := s_l_jar) l4 c4 k4
  have b4 := F4.binds (ps := ["script", "at"]) fun _ _ _ _ _ _ us hl => match us, hl with | [_, _], _ => rfl
  have F5 := fun_mk (st := s_l_sip) l5 c5 k5
  have b5 := F5.binds (ps := ["jar", "total"]) fun _ _ _ _ _ _ us hl => match us, hl with | [_, _], _ => rfl
  have F6 := fun_mk (st := s_l_which) l6 c6 k6
  have b6 := F6.binds (ps := ["jar", "items"]) fun _ _ _ _ _ _ us hl => match us, hl with | [_, _], _ => rfl
  have F7 := fun_mk (st := s_l_mixed) l7 c7 k7
  have b7 := F7.binds (ps := ["jar", "items"]) fun _ _ _ _ _ _ us hl => match us, hl with | [_, _], _ => rfl
  have F8 := fun_mk (st := s_l_letter) l8 c8 k8
  have b8 := F8.binds (ps := ["jar"]) fun _ _ _ _ _ _ us hl => match us, hl with | [_], _ => rfl
  have F9 := fun_mk (st := s_l_many_names) l9 c9 k9
  have b9 := F9.binds (ps := ["jar", "much"]) fun _ _ _ _ _ _ us hl => match us, hl with | [_, _], _ => rfl
  have F10 := fun_mk (st := s_l_spelled) l10 c10 k10
  have b10 := F10.binds (ps := ["value"]) fun _ _ _ _ _ _ us hl => match us, hl with | [_], _ => rfl
  have F11 := fun_mk (st := s_l_is_name_row) l11 c11 k11
  have b11 := F11.binds (ps := ["value"]) fun _ _ _ _ _ _ us hl => match us, hl with | [_], _ => rfl
  have F12 := fun_mk (st := s_l_is_name_set) l12 c12 k12
  have b12 := F12.binds (ps := ["value"]) fun _ _ _ _ _ _ us hl => match us, hl with | [_], _ => rfl
  have F13 := fun_mk (st := s_l_is_short) l13 c13 k13
  have b13 := F13.binds (ps := ["value"]) fun _ _ _ _ _ _ us hl => match us, hl with | [_], _ => rfl
  have F14 := fun_mk (st := s_l_numbers) l14 c14 k14
  have b14 := F14.binds (ps := ["jar", "cell"]) fun _ _ _ _ _ _ us hl => match us, hl with | [_, _], _ => rfl
  have F15 := fun_mk (st := s_l_texts) l15 c15 k15
  have b15 := F15.binds (ps := ["jar"]) fun _ _ _ _ _ _ us hl => match us, hl with | [_], _ => rfl
  have F16 := fun_mk (st := s_l_tuples) l16 c16 k16
  have b16 := F16.binds (ps := ["jar"]) fun _ _ _ _ _ _ us hl => match us, hl with | [_], _ => rfl
  have F17 := fun_mk (st := s_l_cell_right) l17 c17 k17
  have b17 := F17.binds (ps := ["script", "at"]) fun _ _ _ _ _ _ us hl => match us, hl with | [_, _], _ => rfl
  have F18 := fun_mk (st := s_law) l18 c18 k18
  have b18 := F18.binds (ps := ["script"]) fun _ _ _ _ _ _ us hl => match us, hl with | [_], _ => rfl
  refine ⟨{
      a_is_integer := f0,
      d_is_integer := _,
      F_is_integer := F0,
      b_is_integer := b0,
      g_is_integer := PySem.W.mg_of X G a0,
      a_is_name := f1,
      d_is_name := _,
      F_is_name := F1,
      b_is_name := b1,
      g_is_name := PySem.W.mg_of X G a1,
      a_is_set := f2,
      d_is_set := _,
      F_is_set := F2,
      b_is_set := b2,
      g_is_set := PySem.W.mg_of X G a2,
      a_is_names := f3,
      d_is_names := _,
      F_is_names := F3,
      b_is_names := b3,
      g_is_names := PySem.W.mg_of X G a3,
      a_l_jar := f4,
      d_l_jar := _,
      F_l_jar := F4,
      b_l_jar := b4,
      g_l_jar := PySem.W.mg_of X G a4,
      a_l_sip := f5,
      d_l_sip := _,
      F_l_sip := F5,
      b_l_sip := b5,
      g_l_sip := PySem.W.mg_of X G a5,
      a_l_which := f6,
      d_l_which := _,
      F_l_which := F6,
      b_l_which := b6,
      g_l_which := PySem.W.mg_of X G a6,
      a_l_mixed := f7,
      d_l_mixed := _,
      F_l_mixed := F7,
      b_l_mixed := b7,
      g_l_mixed := PySem.W.mg_of X G a7,
      a_l_letter := f8,
      d_l_letter := _,
      F_l_letter := F8,
      b_l_letter := b8,
      g_l_letter := PySem.W.mg_of X G a8,
      a_l_many_names := f9,
      d_l_many_names := _,
      F_l_many_names := F9,
      b_l_many_names := b9,
      g_l_many_names := PySem.W.mg_of X G a9,
      a_l_spelled := f10,
      d_l_spelled := _,
      F_l_spelled := F10,
      b_l_spelled := b10,
      g_l_spelled := PySem.W.mg_of X G a10,
      a_l_is_name_row := f11,
      d_l_is_name_row := _,
      F_l_is_name_row := F11,
      b_l_is_name_row := b11,
      g_l_is_name_row := PySem.W.mg_of X G a11,
      a_l_is_name_set := f12,
      d_l_is_name_set := _,
      F_l_is_name_set := F12,
      b_l_is_name_set := b12,
      g_l_is_name_set := PySem.W.mg_of X G a12,
      a_l_is_short := f13,
      d_l_is_short := _,
      F_l_is_short := F13,
      b_l_is_short := b13,
      g_l_is_short := PySem.W.mg_of X G a13,
      a_l_numbers := f14,
      d_l_numbers := _,
      F_l_numbers := F14,
      b_l_numbers := b14,
      g_l_numbers := PySem.W.mg_of X G a14,
      a_l_texts := f15,
      d_l_texts := _,
      F_l_texts := F15,
      b_l_texts := b15,
      g_l_texts := PySem.W.mg_of X G a15,
      a_l_tuples := f16,
      d_l_tuples := _,
      F_l_tuples := F16,
      b_l_tuples := b16,
      g_l_tuples := PySem.W.mg_of X G a16,
      a_l_cell_right := f17,
      d_l_cell_right := _,
      F_l_cell_right := F17,
      b_l_cell_right := b17,
      g_l_cell_right := PySem.W.mg_of X G a17,
      a_law := f18,
      d_law := _,
      F_law := F18,
      b_law := b18,
      g_law := PySem.W.mg_of X G a18,
      n_abs := PySem.W.mg_none_of X G z0,
      n_isinstance := PySem.W.mg_none_of X G z1,
      n_bool := PySem.W.mg_none_of X G z2,
      n_int := PySem.W.mg_none_of X G z3,
      n_all := PySem.W.mg_none_of X G z4,
      n_len := PySem.W.mg_none_of X G z5,
      n_str := PySem.W.mg_none_of X G z6,
      n_zip := PySem.W.mg_none_of X G z7,
      n_tuple := PySem.W.mg_none_of X G z8,
      n_max := PySem.W.mg_none_of X G z9,
      n_range := PySem.W.mg_none_of X G z10,
      n_list := PySem.W.mg_none_of X G z11,
      n_sorted := PySem.W.mg_none_of X G z12,
      n_set := PySem.W.mg_none_of X G z13,
      n_repr := PySem.W.mg_none_of X G z14,
      n_min := PySem.W.mg_none_of X G z15,
      t_MAX_LETTERS := t_MAX_LETTERS,
      v_MAX_LETTERS := PySem.W.mg_of X G v_MAX_LETTERS }, rfl, fun s v => .of_eq rfl⟩
theorem fin {K : PySem.W.Frag} {mg : Str → Option Value} {fa : Addr} {w : World} {P : Program} (E : ∃ T : Tx K mg, T.a_law = fa ∧ ∀ (s : Shared) (v : Value), BindsTo s T.d_law ⟨[v], []⟩ [("script", v)]) :
    ∃ fd : FuncData, (∀ (s : Shared) (v : Value), BindsTo s fd ⟨[v], []⟩ [("script", v)]) ∧ ∀ base : Heap, K.In base → base.Ns mainGlobals mg → FnG P w K mg base CX0 6 fa fd ["script"] (spLaw K) := by
  obtain ⟨T, rfl, b⟩ := E
  exact ⟨T.d_law, b, fun _ _ _ => ok_law T⟩
end W0
open PySem PySem.W PyProof.Rows
set_option maxHeartbeats 0 in
theorem PySem.Challenge.cw_eachshare_k00_integers_names_and_sets_holds : PySem.Challenge.rw_eachshare_k00_integers_names_and_sets.Holds := by
  w_on; o_law; k_head; (case hw => w_witness2)
  k_fill
  refine Gd.walk_G (l := PySem.Challenge.rw_eachshare_k00_integers_names_and_sets) (n := 63) (k := 6) (x := "script") (sp := fun w => W0.spLaw _) rfl (by decide) rfl ⟨rfl, by decide, by decide⟩ (fun w h Y => PySem.W.kIn_of Y) ?F (fun _ _ a ns hl _ hS => ⟨a, ns, rfl, hS, hl, fun _ => rfl⟩)
  case F =>
    intro w mg fa h KX G hmg
    refine' W0.fin (W0.mk_T KX G hmg ?a0 ?l0 ?c0 ?k0 ?a1 ?l1 ?c1 ?k1 ?a2 ?l2 ?c2 ?k2 ?a3 ?l3 ?c3 ?k3 ?a4 ?l4 ?c4 ?k4 ?a5 ?l5 ?c5 ?k5 ?a6 ?l6 ?c6 ?k6 ?a7 ?l7 ?c7 ?k7 ?a8 ?l8 ?c8 ?k8 ?a9 ?l9 ?c9 ?k9 ?a10 ?l10 ?c10 ?k10 ?a11 ?l11 ?c11 ?k11 ?a12 ?l12 ?c12 ?k12 ?a13 ?l13 ?c13 ?k13 ?a14 ?l14 ?c14 ?k14 ?a15 ?l15 ?c15 ?k15 ?a16 ?l16 ?c16 ?k16 ?a17 ?l17 ?c17 ?k17 ?a18 ?l18 ?c18 ?k18 ?z0 ?z1 ?z2 ?z3 ?z4 ?z5 ?z6 ?z7 ?z8 ?z9 ?z10 ?z11 ?z12 ?z13 ?z14 ?z15 ?v_MAX_LETTERS)
    (case a0 => k_is); (case l0 => k_is); (case c0 => k_is); (case k0 => k_is); (case a1 => k_is); (case l1 => k_is); (case c1 => k_is); (case k1 => k_is); (case a2 => k_is); (case l2 => k_is); (case c2 => k_is); (case k2 => k_is); (case a3 => k_is); (case l3 => k_is); (case c3 => k_is); (case k3 => k_is); (case a4 => k_is); (case l4 => k_is); (case c4 => k_is); (case k4 => k_is); (case a5 => k_is); (case l5 => k_is); (case c5 => k_is); (case k5 => k_is); (case a6 => k_is); (case l6 => k_is); (case c6 => k_is); (case k6 => k_is); (case a7 => k_is); (case l7 => k_is); (case c7 => k_is); (case k7 => k_is); (case a8 => k_is); (case l8 => k_is); (case c8 => k_is); (case k8 => k_is); (case a9 => k_is); (case l9 => k_is); (case c9 => k_is); (case k9 => k_is); (case a10 => k_is); (case l10 => k_is); (case c10 => k_is); (case k10 => k_is); (case a11 => k_is); (case l11 => k_is); (case c11 => k_is); (case k11 => k_is); (case a12 => k_is); (case l12 => k_is); (case c12 => k_is); (case k12 => k_is); (case a13 => k_is); (case l13 => k_is); (case c13 => k_is); (case k13 => k_is); (case a14 => k_is); (case l14 => k_is); (case c14 => k_is); (case k14 => k_is); (case a15 => k_is); (case l15 => k_is); (case c15 => k_is); (case k15 => k_is); (case a16 => k_is); (case l16 => k_is); (case c16 => k_is); (case k16 => k_is); (case a17 => k_is); (case l17 => k_is); (case c17 => k_is); (case k17 => k_is); (case a18 => k_is); (case l18 => k_is); (case c18 => k_is); (case k18 => k_is); (case z0 => k_is); (case z1 => k_is); (case z2 => k_is); (case z3 => k_is); (case z4 => k_is); (case z5 => k_is); (case z6 => k_is); (case z7 => k_is); (case z8 => k_is); (case z9 => k_is); (case z10 => k_is); (case z11 => k_is); (case z12 => k_is); (case z13 => k_is); (case z14 => k_is); (case z15 => k_is); (case v_MAX_LETTERS => k_is)
