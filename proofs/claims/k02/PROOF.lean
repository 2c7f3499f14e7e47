import PyProof.Rows.All
import Wide.All
import OpenK.AllK
import Wide.FinOn
import HandS.Base
import HandS.Call
import HandS.Ends
import HandS.List
import HandS.Words
import HandS.Comp
import HandS.Evl
import HandS.TupAny
import HandS.TupMul
import HandS.Style
import HandS.SortInts
import HandS.SetFor
import HandS.Strs
import PyProof.ReprBulk
import PyProof.ReprRoads
import PyProof.FitsInt
import HandS.Conv
import HandS.Dict
import HandS.Flow
import PySem.Challenge.RW_drawndeeds_k02_whole_deeds_done
set_option Elab.async false
set_option linter.all false
set_option maxRecDepth 100000
set_option maxHeartbeats 4000000
/-! Vf1: promises of defs where it is known that no text of an object is under way (for repr) -/
namespace Vf
open PySem PySem.Spec PyProof.Rows L2

theorem guards_deeper {A : Around} {env : Env} (h : A.guards = some []) : (A.deeper env).guards = some [] := by
  first | exact h | simp [Around.deeper, h]
theorem guards_in1 {A : Around} (h : A.guards = some []) : A.in1.guards = some [] := h

/-- as FnOk, over surroundings in which nothing is being shown -/
structure FnG (P : Program) (w : World) (K : PySem.W.Frag) (mg : Str → Option Value) (base : Heap) (CX : CXT) (k : Nat) (f : Addr) (fd : FuncData) (ps : List Str) (sp : Sp) : Prop where
  arity : ∀ vs H Q E, sp vs H Q E → vs.length = ps.length
  go : ∀ (A : Around) (outer : List Env) (s : Shared) (H : Hp) (args : Args) (us : List Value) (vs : List V) (Q : VK) (E : XK),
    A.guards = some [] → Room k A → Env0 P w K mg base A outer s H → BindsTo s fd args (ps.zip us) → Vals vs us → sp vs H Q E →
      codeAny (model P w) A (.call (.ref f) args) (CR CX outer P w H s Q E) s

section
variable {P : Program} {w : World} {K : PySem.W.Frag} {mg : Str → Option Value} {base : Heap}
theorem FnG.of {CX : CXT} {k : Nat} {f : Addr} {fd : FuncData} {ps : List Str} {sp : Sp} (F : FnOk P w K mg base CX k f fd ps sp) : FnG P w K mg base CX k f fd ps sp :=
  ⟨F.len, fun A outer s H args us vs Q E _ hr e0 hb hv hs => F.run A outer s H args us vs Q E hr e0 hb hv hs⟩
theorem FnG.up {CX : CXT} {j k : Nat} {f : Addr} {fd : FuncData} {ps : List Str} {sp : Sp} (F : FnG P w K mg base CX j f fd ps sp) (h : j ≤ k) : FnG P w K mg base CX k f fd ps sp :=
  ⟨F.arity, fun A outer s H args us vs Q E hg hr => F.go A outer s H args us vs Q E hg (hr.mono h)⟩

/-- a def of the text keeps its promise -/
theorem okG {CX : CXT} {x qual : Str} {st : Stmt} {f : Addr} {fd : FuncData} {N ps : List Str} {k : Nat} {sp : Sp} (F : Fun K x qual st f fd) (S : FnScope N ps (defScope st))
    (ar : ∀ vs H Q E, sp vs H Q E → vs.length = ps.length)
    (body : ∀ (cdv : Value) (A : Around) (outer : List Env) (s : Shared) (H : Hp) (vs : List V) (Q : VK) (E : XK),
      (A.deeper (envOfC qual (defScope st) s.heap.objs.size f cdv)).guards = some [] → Room k (A.deeper (envOfC qual (defScope st) s.heap.objs.size f cdv)) → sp vs H Q E →
        ∃ t, PSs (cxOf CX P w K mg base N qual (defScope st) f cdv A outer s H E) (defBody st) t ∧ t { nx := fun _ H' => Q .non H', rt := Q } (start N vs) H) :
    FnG P w K mg base CX (k + 1) f fd ps sp := by
  obtain ⟨oc, od, kV, doc, pm, an, cdv, ct, osl, rfl, look, code⟩ := F.ex
  refine ⟨ar, ?_⟩
  intro A outer s H args us vs Q E grd room e0 bind rel want
  have inK : K.In s.heap := PySem.W.Frag.In.keeps e0.mod.kin (fun b o e => (e0.bs b o e).1)
  have noLim : s.heap.NoLimit := Heap.NoLimit.keeps e0.mod.nolimit (fun b o e => (e0.bs b o e).1)
  refine codeAny_call_function room.depth (inK _ _ look) rfl S.co S.gen rfl (PySem.W.codeRec_of inK code) (bind _ _ _ _ ?_)
  have kinds : ∀ y ∈ ps.zip us, (defScope st).names.lookup y.1 = some .local ∨
      ((defScope st).names.lookup y.1 = some .cell ∧ ((cellsFrom (s.heap.objs.size + 1) (defScope st).names []).lookup y.1).isSome = true) := by
    rintro ⟨n, v⟩ hy
    have hn := S.par n (List.of_mem_zip hy).1
    cases hn with
    | inl q => exact Or.inl q
    | inr q => exact Or.inr ⟨q, PySem.W.cellsFrom_some _ _ _ (Or.inl q)⟩
  refine wpAny_newFunctionEnv_cells S.kind kinds ?_
  intro env he s1 inCall
  subst he
  refine ⟨noLim.keeps inCall.toInCall.keep, codeAny_func ?_⟩
  obtain ⟨t, ht, hq⟩ := body cdv A outer s H vs Q E (guards_deeper grd) (room.deeper _) want
  have I := inv_start (CX := CX) (E := E) S room.hd e0 (ar vs H Q E want) rel inCall
  have ran := ht.run [] s1 (start N vs) H _ I hq
  refine wpAny_mono ran ?_ (fun e s' hs => hs)
  rintro (_ | _ | _ | u) s' hs
  · obtain ⟨σ', H', J, q⟩ := hs
    exact ⟨V.non, H', J.os, J.bare, J.base, J.hok, rfl, q⟩
  all_goals first
    | (obtain ⟨v, σ', H', J, rv, q⟩ := hs; exact ⟨v, H', J.os, J.bare, J.base, J.hok, rv, q⟩)
    | (obtain ⟨_, _, _, q⟩ := hs; exact q.elim)
end

section
variable {X : Cx} {CX : CXT} {k : Nat} {f : Addr} {fd : FuncData} {ps : List Str} {sp : Sp} {dvs : List V} {ds : List Value} {E : XK} {x : Str} {p pos : Pos} {e : Expr} {es : List Expr} {t : TA}
/-- a call of such a def -/
theorem callG (F : FnG X.prog X.w X.K X.mg X.base CX k f fd ps sp) (grd : X.A.guards = some []) (room : Room k X.A) (hg : Gl X x) (hm : X.mg x = some (.ref f)) (kp : PySem.W.keepIn X.K (.ref f) = true) (hb : Binds X.K fd ps [])
    (hx : Passes CX X E) (ha : PA X (e :: es) t) (hdb : (x == ("__debug__" : Str)) = false := by decide)
    (he : starEach (e :: es) X.env = (false, eval e X.env) :: starEach es X.env := by rfl) (hpl : (backTo pos (starEach es X.env)).any (·.1) = false := by rfl) :
    PE X (.Call (.Name x p) (e :: es) [] pos) (tCall sp [] E t) := by
  constructor
  intro pins s σ H Q I h
  refine wpAny_Call_Name_kw (ld_glob I hg hm ?_ hdb)
  refine PySem.W.callWith_K (h₀ := X.base) I.ok.mod.kin kp ?_ he hpl
  refine thn (ha.run pos pins s σ H _ I h) ?_
  rintro us s1 ⟨vs, H1, I1, r, q⟩
  refine ⟨I1.kIn, ?_⟩
  rw [List.append_nil] at q
  have long : us.length = ps.length := by
    have := F.arity _ _ _ _ q
    rw [← r.length]
    exact this
  have bnd := hb s1 us I1.kIn (by rw [List.append_nil]; exact long)
  rw [List.append_nil] at bnd
  refine wpAny_call (codeAny_mono (F.go X.A X.stack s1 H1 ⟨us, []⟩ us vs Q E grd room I1.env0 bnd r q) ?_)
  rintro (er | fl) s' hq
  · exact hx pins σ H1 s1 er s' I1 hq
  · cases fl with
    | ret u => exact I1.after hq
    | next => exact hq.elim
    | brk => exact hq.elim
    | cont => exact hq.elim
end

/-! ### the law's own call -/
/-- the script: known to the object, or of the written part -/
def Scr (K : PySem.W.Frag) (H : Hp) (a : Addr) (ns : List Int) : Prop :=
  (∃ o, H a = some (.frz o (.lst (ns.map V.int)))) ∨
    ∃ (o : Obj) (its : Array Value) (n : Nat), K.lookup a = some o ∧ o.cls = .type "list" ∧ o.dict = none ∧ o.data = .seq its n ∧ its.size ≤ sizeLine ∧ Vals (ns.map V.int) its.toList
theorem Scr.seq {K : PySem.W.Frag} {H : Hp} {a : Addr} {ns : List Int} (h : Scr K H a ns) : SqL K H a (ns.map V.int) := h.imp (fun ⟨o, e⟩ => .inr ⟨o, e⟩) id
section
variable {P : Program} {w : World} {K : PySem.W.Frag} {mg mb : Str → Option Value} {CX : CXT} {k : Nat} {fa a : Addr} {fd : FuncData} {x : Str} {sp : Sp} {s1 : Shared} {vs : List Value} {ns : List Int}

/-- from an abstract heap that tracks the script alone, or nothing -/
theorem lawG_core (inK : K.In s1.heap) (hns : s1.heap.Ns mainGlobals mg) (hb : s1.heap.Ns builtinsNs mb) (hbb : ∀ x : Str, x ≠ "__name__" → mb x = bootBuiltins x) (hlim : s1.heap.NoLimit) (hg : s1.gens = #[])
    (at_ : s1.heap.get? a = some { cls := .type "list", data := .seq vs.toArray }) (room : Room k callerA)
    (F : ∀ base : Heap, K.In base → base.Ns mainGlobals mg → FnG P w K mg base CX k fa fd [x] sp) (bind : ∀ (s : Shared) (u : Value), BindsTo s fd ⟨[u], []⟩ [(x, u)])
    (noX : ∀ H e s', CX [] H s1 (fun _ _ _ => False) e s' → False)
    (H : Hp) (want : sp [.ref a] H (fun v _ => v = .bl true) fun _ _ _ => False) (ok : HOk P w H s1.heap)
    (onlyA : ∀ b, H b ≠ none → b = a) (notK : H a ≠ none → K.lookup a = none) (frz : ∀ u, H a = some u → ∃ o xs, u = .frz o (.lst xs)) :
    codeAny (model P w) callerA (.call (.ref fa) ⟨[.ref a], []⟩) (fun r s' => r = .ok (.ret (.bool true)) ∧ OldK s1.heap s'.heap ∧ s'.os = s1.os ∧ AllBare s'.gens) s1 := by
  have isNone : ∀ {b : Addr} {o : Obj}, s1.heap.get? b = some o → (b = a → H a ≠ none → False) → H b = none := by
    intro b o _ no
    cases q : H b with
    | none => rfl
    | some u =>
      have e := onlyA b (by rw [q]; intro z; cases z)
      subst e
      exact (no rfl (by rw [q]; intro z; cases z)).elim
  have spaces : ∀ {b : Addr} {m : Str → Option Value}, s1.heap.Ns b m → (hidT s1.heap H).Ns b m := by
    rintro b m ⟨o, es, ep, e, d, r⟩
    refine ⟨o, es, ep, hidT_get e (isNone e ?_), d, r⟩
    rintro rfl _
    rw [at_] at e
    cases e
    have d' : Data.seq vs.toArray _ = Data.dict es ep := d
    cases d'
  have inB : K.In (hidT s1.heap H) := by
    intro b o e
    refine hidT_get (inK b o e) (isNone (inK b o e) ?_)
    rintro rfl h
    rw [notK h] at e
    cases e
  obtain ⟨mc, lim1, lim2⟩ := hlim
  have module : Mod K mg (hidT s1.heap H) := { kin := inB, glob := spaces hns, blt := ⟨mb, spaces hb, hbb⟩, nolimit := ⟨mc, spaces lim1, lim2⟩ }
  have e0 : Env0 P w K mg (hidT s1.heap H) callerA [] s1 H :=
    { frames := rfl, mod := module, bs := fun b o e => of_hidT e, bsz := Nat.le_of_eq (hidT_size _ _), funs := trivial, frf := (fun b hb => absurd (show b ∈ ([] : List Addr) from hb) (List.not_mem_nil)), hok := ok, bare := .of_eq hg }
  have run := (F _ inB (spaces hns)).go callerA [] s1 H ⟨[.ref a], []⟩ [.ref a] [.ref a] _ _ rfl room e0 (bind s1 (.ref a)) (.cons rfl .nil) want
  refine codeAny_mono run ?_
  rintro (er | fl) s' h
  · exact (noX H er s' h).elim
  · cases fl with
    | next => exact False.elim h
    | brk => exact False.elim h
    | cont => exact False.elim h
    | ret u =>
      obtain ⟨v, H', os, bare, un, ok', rv, q⟩ := h
      have q1 : v = .bl true := q
      subst q1
      have q2 : u = Value.bool true := rv
      subst q2
      refine ⟨rfl, OldK.of_keep ?_, os, bare⟩
      intro b o e
      cases q : H b with
      | none => exact un.keep b o e q (fun z => absurd (show b ∈ ([] : List Addr) from z) List.not_mem_nil) List.not_mem_nil
      | some u =>
        have e1 := onlyA b (by rw [q]; intro z; cases z)
        subst e1
        obtain ⟨ob, xs, e2⟩ := frz u q
        subst e2
        have kept := un.frzs b ob _ q
        obtain ⟨g1, _⟩ := ok b _ q
        obtain ⟨g2, _⟩ := ok' b _ kept
        rw [e] at g1
        cases g1
        exact g2

theorem lawG (inK : K.In s1.heap) (hns : s1.heap.Ns mainGlobals mg) (hb : s1.heap.Ns builtinsNs mb) (hbb : ∀ x : Str, x ≠ "__name__" → mb x = bootBuiltins x) (hlim : s1.heap.NoLimit) (hg : s1.gens = #[])
    (at_ : s1.heap.get? a = some { cls := .type "list", data := .seq vs.toArray }) (isInts : IntsAre vs ns) (few : ns.length ≤ sizeLine) (room : Room k callerA)
    (F : ∀ base : Heap, K.In base → base.Ns mainGlobals mg → FnG P w K mg base CX k fa fd [x] sp) (bind : ∀ (s : Shared) (u : Value), BindsTo s fd ⟨[u], []⟩ [(x, u)])
    (want : ∀ H : Hp, Scr K H a ns → sp [.ref a] H (fun v _ => v = .bl true) fun _ _ _ => False)
    (noX : ∀ H e s', CX [] H s1 (fun _ _ _ => False) e s' → False) :
    codeAny (model P w) callerA (.call (.ref fa) ⟨[.ref a], []⟩) (fun r s' => r = .ok (.ret (.bool true)) ∧ OldK s1.heap s'.heap ∧ s'.os = s1.os ∧ AllBare s'.gens) s1 := by
  have rel := vals_ints isInts
  have len := isInts.length
  cases look : K.lookup a with
  | some o =>
    have e := inK a o look
    rw [at_] at e
    cases e
    have sq : Scr K (fun _ => none) a ns := Or.inr ⟨_, vs.toArray, _, look, rfl, rfl, rfl, by rw [List.size_toArray, len]; exact few, by simpa using rel⟩
    exact lawG_core inK hns hb hbb hlim hg at_ room F bind noX (fun _ => none) (want _ sq) (fun b u z => nomatch z) (fun b z => absurd rfl z) (fun z => absurd rfl z) (fun u z => nomatch z)
  | none =>
    let ob : Obj := { cls := .type "list", data := .seq vs.toArray }
    let H : Hp := fun b => if b = a then some (.frz ob (.lst (ns.map V.int))) else none
    have Ha : H a = some (.frz ob (.lst (ns.map V.int))) := if_pos rfl
    have Hn : ∀ b, b ≠ a → H b = none := fun b hb => if_neg hb
    refine lawG_core inK hns hb hbb hlim hg at_ room F bind noX H (want _ (Or.inl ⟨ob, Ha⟩)) ?_ ?_ (fun _ => look) ?_
    · intro b u z
      by_cases hb : b = a
      · subst hb
        rw [Ha] at z
        cases z
        exact ⟨at_, by rw [List.length_map]; exact few, vs, _, rel, at_⟩
      · rw [Hn b hb] at z
        cases z
    · intro b hb
      by_cases hc : b = a
      · exact hc
      · exact absurd (Hn b hc) hb
    · intro u z
      rw [Ha] at z
      cases z
      exact ⟨_, _, rfl⟩
end

/-- the goal that the head leaves -/
theorem walkG {l : PySem.W.OpenLaw} {n k : Nat} {q : Program} {loose : List Str} {XP : (Str → Option Value) → Heap → Prop} {YP : World → Heap → Prop} {d : DefRec} {K : Params → PySem.W.Frag} {sp : PySem.W.Frag → Sp} {x : Str}
    (hn : l.most = some n) (hn2 : n ≤ sizeLine) (hdf : d.params.defaults = []) (room : Room k callerA)
    (hY : ∀ (w : World) (h : Heap), YP w h → (K w.params).In h)
    (F : ∀ (w : World) (mg : Str → Option Value) (fa : Addr) (h : Heap), (K w.params).In h → h.Ns mainGlobals mg → mg d.name = some (.ref fa) →
      ∃ fd : FuncData, (∀ (s : Shared) (u : Value), BindsTo s fd ⟨[u], []⟩ [(x, u)]) ∧
        ∀ base : Heap, (K w.params).In base → base.Ns mainGlobals mg → FnG l.prog w (K w.params) mg base CX0 k fa fd [x] (sp (K w.params)))
    (want : ∀ (K : PySem.W.Frag) (H : Hp) (a : Addr) (ns : List Int), ns.length ≤ n → Scr K H a ns → sp K [.ref a] H (fun v _ => v = .bl true) fun _ _ _ => False) :
    PySem.W.WalkO q loose XP YP l.row.toRowW d [] (fun f vs => PySem.call f vs) := by
  refine Att.attach_call hn hdf ?_
  intro w s0 s1 mg mb fa o pm cd doc a vs ns G Y ho hd hcd hmg hobj hints hlen hg
  have inK := hY w _ Y
  obtain ⟨fd, bind, hF⟩ := F w mg fa _ inK G.T.g hmg
  exact lawG inK G.T.g G.T.b G.T.builtins G.T.nolimit hg hobj hints (Nat.le_trans hlen hn2) room hF bind (fun H hS => want _ H a ns hlen hS) (fun _ _ _ h => h)
end Vf

set_option Elab.async false
set_option linter.all false
set_option maxRecDepth 100000
set_option maxHeartbeats 4000000
/-! Vf2: readings by data: what a piece of syntax does, said of plain data (PyData), without the heap -/
namespace Vf
open PySem PySem.Spec PyProof.Rows L2
abbrev PD := PyData

/-! ### heaps -/
def msk (M : List Addr) (H : Hp) : Hp := fun a => if a ∈ M then none else H a
theorem msk_out {M : List Addr} {H : Hp} {a : Addr} (h : a ∉ M) : msk M H a = H a := if_neg h
theorem msk_in {M : List Addr} {H : Hp} {a : Addr} (h : a ∈ M) : msk M H a = none := if_pos h
theorem of_msk {M : List Addr} {H : Hp} {a : Addr} {o : HO} (h : msk M H a = some o) : a ∉ M ∧ H a = some o := by
  by_cases z : a ∈ M
  · rw [msk_in z] at h; cases h
  · rw [msk_out z] at h; exact ⟨z, h⟩
def Le (H H' : Hp) : Prop := ∀ a o, H a = some o → H' a = some o
theorem Le.refl (H : Hp) : Le H H := fun _ _ h => h
theorem Le.trans {H H1 H2 : Hp} (a : Le H H1) (b : Le H1 H2) : Le H H2 := fun x o h => b x o (a x o h)
theorem msk_le {M : List Addr} {H : Hp} : Le (msk M H) H := fun _ _ h => (of_msk h).2
theorem msk_sub {M N : List Addr} {H : Hp} (h : ∀ a ∈ M, a ∈ N) : Le (msk N H) (msk M H) := fun a o q => by
  obtain ⟨n, e⟩ := of_msk q
  rw [msk_out (fun z => n (h a z))]; exact e

theorem rd_le {H H' : Hp} {a : Addr} {u : HO} (e : Le H H') (h : Rd H a u) : Rd H' a u := by
  rcases h with h | ⟨o, h⟩
  · exact .inl (e _ _ h)
  · exact .inr ⟨o, e _ _ h⟩
mutual
/-- a value holds data: as Dp, its lists tracked -/
inductive Dq (K : PySem.W.Frag) (H : Hp) : V → PD → Prop
  | non : Dq K H .non .none
  | bl (b : Bool) : Dq K H (.bl b) (.bool b)
  | int (i : Int) : Dq K H (.int i) (.int i)
  | str (x : Str) : Dq K H (.str x) (.str x)
  | lst {a : Addr} {xs : List V} {ds : List PD} : H a = some (.lst xs) → DqAll K H xs ds → Dq K H (.ref a) (.list ds)
  | tup {a : Addr} {xs : List V} {ds : List PD} : SqT K H a xs → DqAll K H xs ds → Dq K H (.ref a) (.tuple ds)
inductive DqAll (K : PySem.W.Frag) (H : Hp) : List V → List PD → Prop
  | nil : DqAll K H [] []
  | cons {v : V} {vs : List V} {d : PD} {ds : List PD} : Dq K H v d → DqAll K H vs ds → DqAll K H (v :: vs) (d :: ds)
end
section
variable {K : PySem.W.Frag} {H H' : Hp}
mutual
theorem Dq.dp : ∀ {v : V} {d : PD}, Dq K H v d → Dp K H v d
  | _, _, .non => .non
  | _, _, .bl b => .bl b
  | _, _, .int i => .int i
  | _, _, .str x => .str x
  | _, _, .lst h hs => .lst (.inl (.inl h)) (DqAll.dp hs)
  | _, _, .tup h hs => .tup h (DqAll.dp hs)
theorem DqAll.dp : ∀ {vs : List V} {ds : List PD}, DqAll K H vs ds → DpAll K H vs ds
  | _, _, .nil => .nil
  | _, _, .cons h hs => .cons (Dq.dp h) (DqAll.dp hs)
end
theorem sql_le {a : Addr} {xs : List V} (e : Le H H') (h : SqL K H a xs) : SqL K H' a xs := h.imp (rd_le e) id
theorem sqt_le {a : Addr} {xs : List V} (e : Le H H') (h : SqT K H a xs) : SqT K H' a xs := h.imp (rd_le e) id
mutual
theorem dp_le (e : Le H H') : ∀ {v : V} {d : PD}, Dq K H v d → Dq K H' v d
  | _, _, .non => .non
  | _, _, .bl b => .bl b
  | _, _, .int i => .int i
  | _, _, .str x => .str x
  | _, _, .lst h hs => .lst (e _ _ h) (dps_le e hs)
  | _, _, .tup h hs => .tup (sqt_le e h) (dps_le e hs)
theorem dps_le (e : Le H H') : ∀ {vs : List V} {ds : List PD}, DqAll K H vs ds → DqAll K H' vs ds
  | _, _, .nil => .nil
  | _, _, .cons h hs => .cons (dp_le e h) (dps_le e hs)
end
theorem dps_len : ∀ {vs : List V} {ds : List PD}, DqAll K H vs ds → vs.length = ds.length
  | _, _, .nil => rfl
  | _, _, .cons _ hs => by simp [dps_len hs]
theorem dps_get : ∀ {vs : List V} {ds : List PD} {i : Nat} {x : V}, DqAll K H vs ds → vs[i]? = some x → ∃ d, ds[i]? = some d ∧ Dq K H x d
  | _, _, _, _, .nil, e => by simp at e
  | _, _, 0, _, .cons h _, e => by simp at e; subst e; exact ⟨_, rfl, h⟩
  | _, _, i + 1, x, .cons _ hs, e => by
    obtain ⟨d, h1, h2⟩ := dps_get (i := i) (x := x) hs (by simpa using e)
    exact ⟨d, by simpa using h1, h2⟩
theorem dps_get' : ∀ {vs : List V} {ds : List PD} {i : Nat} {d : PD}, DqAll K H vs ds → ds[i]? = some d → ∃ x, vs[i]? = some x ∧ Dq K H x d
  | _, _, _, _, .nil, e => by simp at e
  | _, _, 0, _, .cons h _, e => by simp at e; subst e; exact ⟨_, rfl, h⟩
  | _, _, i + 1, x, .cons _ hs, e => by
    obtain ⟨d, h1, h2⟩ := dps_get' (i := i) (d := x) hs (by simpa using e)
    exact ⟨d, by simpa using h1, h2⟩
theorem dps_app : ∀ {vs ws : List V} {ds es : List PD}, DqAll K H vs ds → DqAll K H ws es → DqAll K H (vs ++ ws) (ds ++ es)
  | _, _, _, _, .nil, h => h
  | _, _, _, _, .cons h hs, h' => .cons h (dps_app hs h')
theorem dps_take : ∀ {vs : List V} {ds : List PD} (n : Nat), DqAll K H vs ds → DqAll K H (vs.take n) (ds.take n)
  | _, _, 0, _ => .nil
  | _, _, _ + 1, .nil => .nil
  | _, _, n + 1, .cons h hs => .cons h (dps_take n hs)
theorem dps_drop : ∀ {vs : List V} {ds : List PD} (n : Nat), DqAll K H vs ds → DqAll K H (vs.drop n) (ds.drop n)
  | _, _, 0, h => h
  | _, _, _ + 1, .nil => .nil
  | _, _, n + 1, .cons _ hs => dps_drop n hs
theorem dps_rev : ∀ {vs : List V} {ds : List PD}, DqAll K H vs ds → DqAll K H vs.reverse ds.reverse
  | _, _, .nil => .nil
  | _, _, .cons h hs => by
    rw [List.reverse_cons, List.reverse_cons]
    exact dps_app (dps_rev hs) (.cons h .nil)
theorem dps_ints : ∀ (ns : List Int), DqAll K H (ns.map V.int) (ns.map PyData.int)
  | [] => .nil
  | n :: ns => .cons (.int n) (dps_ints ns)
theorem dp_int_inv {v : V} {i : Int} (h : Dq K H v (.int i)) : v = .int i := by cases h; rfl
theorem dps_ints_inv : ∀ {vs : List V} {ns : List Int}, DqAll K H vs (ns.map PyData.int) → vs = ns.map V.int
  | _, [], h => by cases h; rfl
  | _, n :: ns, h => by
    cases h with
    | cons h hs =>
      rw [dp_int_inv h, dps_ints_inv hs]; rfl
theorem dp_tup_inv {v : V} {ds : List PD} (h : Dq K H v (.tuple ds)) : ∃ a xs, v = .ref a ∧ SqT K H a xs ∧ DqAll K H xs ds := by
  cases h with | tup h hs => exact ⟨_, _, rfl, h, hs⟩
theorem dp_lst_inv {v : V} {ds : List PD} (h : Dq K H v (.list ds)) : ∃ a xs, v = .ref a ∧ H a = some (.lst xs) ∧ DqAll K H xs ds := by
  cases h with | lst h hs => exact ⟨_, _, rfl, h, hs⟩
end

/-! ### the source of the law's draws: a dict and its list of cells -/
def Src (s c : Addr) (H : Hp) : Prop := s ≠ c ∧ ∃ (l m t : Int) (ns : List Int),
  H s = some (.dK [(.inr "cells", .ref c), (.inr "left", .int l), (.inr "mixed", .int m), (.inr "turn", .int t)]) ∧ H c = some (.lst (ns.map V.int))
abbrev So := Option (Addr × Addr)
def Fo : So → List Addr
  | none => []
  | some (s, c) => [s, c]
def Jo : So → Hp → Prop
  | none, _ => True
  | some (s, c), H => Src s c H
structure To (S : So) (H H' : Hp) : Prop where
  kp : ∀ a o, a ∉ Fo S → H a = some o → H' a = some o
  dom : ∀ a, H a ≠ none → H' a ≠ none
  jo : Jo S H → Jo S H'
structure Gd (M : List Addr) (S : So) (H : Hp) : Prop where
  dom : ∀ a ∈ M, H a ≠ none
  fo : ∀ a ∈ Fo S, a ∈ M
  jo : Jo S H
section
variable {S : So} {M : List Addr} {H H1 H2 : Hp}
theorem To.refl : To S H H := ⟨fun _ _ _ h => h, fun _ h => h, fun h => h⟩
theorem To.trans (a : To S H H1) (b : To S H1 H2) : To S H H2 := ⟨fun x o n h => b.kp x o n (a.kp x o n h), fun x h => b.dom x (a.dom x h), fun h => b.jo (a.jo h)⟩
theorem To.gd (a : To S H H1) (g : Gd M S H) : Gd M S H1 := ⟨fun x h => a.dom x (g.dom x h), g.fo, a.jo g.jo⟩
theorem To.msk (a : To S H H1) (g : Gd M S H) : Le (msk M H) (msk M H1) := fun x o h => by
  obtain ⟨n, e⟩ := of_msk h
  rw [msk_out n]
  exact a.kp x o (fun z => n (g.fo x z)) e
theorem src_keep {s c : Addr} (h : Src s c H) (k : ∀ o, H s = some o → H1 s = some o) (k2 : ∀ o, H c = some o → H1 c = some o) : Src s c H1 := by
  obtain ⟨n, l, m, t, ns, e1, e2⟩ := h
  exact ⟨n, l, m, t, ns, k _ e1, k2 _ e2⟩
theorem jo_le (e : Le H H1) : Jo S H → Jo S H1 := by
  cases S with
  | none => exact fun _ => trivial
  | some p => exact fun h => src_keep h (fun o => e _ o) (fun o => e _ o)
theorem le_dom (e : Le H H1) : ∀ a, H a ≠ none → H1 a ≠ none := fun a h z => by
  cases q : H a with
  | none => exact h q
  | some o =>
    rw [e a o q] at z
    cases z
theorem To.le (e : Le H H1) : To S H H1 := ⟨fun a o _ h => e a o h, le_dom e, jo_le e⟩
theorem le_new {p : Addr} {o : HO} (h : H p = none) : Le H (upd H p o) := fun a u e => by
  rw [upd_ne (ne_of_none e h)]; exact e
theorem To.new {p : Addr} {o : HO} (h : H p = none) : To S H (upd H p o) := To.le (le_new h)
theorem Gd.fresh {p : Addr} (g : Gd M S H) (h : H p = none) : p ∉ M := fun z => g.dom p z h
end

/-! ### values by data -/
inductive DV where
  | dat (d : PD)
  /-- a list that is the frame's own and may be changed -/
  | own (xs : List PD)
  | src
abbrev DSt := List (Option DV)
def RD (K : PySem.W.Frag) (M : List Addr) (S : So) (H : Hp) (v : V) : DV → Prop
  | .dat d => Dq K (msk M H) v d
  | .own xs => ∃ p vs, v = .ref p ∧ p ∈ M ∧ p ∉ Fo S ∧ H p = some (.lst vs) ∧ DqAll K (msk M H) vs xs
  | .src => ∃ s c, S = some (s, c) ∧ v = .ref s
def RDs (K : PySem.W.Frag) (M : List Addr) (S : So) (H : Hp) : List V → List DV → Prop
  | [], [] => True
  | v :: vs, d :: ds => RD K M S H v d ∧ RDs K M S H vs ds
  | _, _ => False
/-- the slots by data -/
def SV (K : PySem.W.Frag) (M : List Addr) (S : So) (H : Hp) (σ : L2.St) (ρ : DSt) : Prop := σ.length = ρ.length ∧ ∀ (i : Nat) (dv : DV), ρ[i]? = some (some dv) → ∃ v, σ[i]? = some (some v) ∧ RD K M S H v dv
section
variable {K : PySem.W.Frag} {M : List Addr} {S : So} {H H1 : Hp} {σ : L2.St} {ρ : DSt} {v : V} {dv : DV}
theorem RD.to (g : Gd M S H) (a : To S H H1) : ∀ {dv : DV}, RD K M S H v dv → RD K M S H1 v dv
  | .dat d, h => dp_le (a.msk g) h
  | .own xs, ⟨p, vs, e, m, n, q, hs⟩ => ⟨p, vs, e, m, n, a.kp p _ n q, dps_le (a.msk g) hs⟩
  | .src, h => h
theorem RDs.to (g : Gd M S H) (a : To S H H1) : ∀ {vs : List V} {ds : List DV}, RDs K M S H vs ds → RDs K M S H1 vs ds
  | [], [], _ => trivial
  | _ :: _, _ :: _, ⟨h, hs⟩ => ⟨h.to g a, hs.to g a⟩
  | [], _ :: _, h => h.elim
  | _ :: _, [], h => h.elim
theorem SV.to (g : Gd M S H) (a : To S H H1) (h : SV K M S H σ ρ) : SV K M S H1 σ ρ := ⟨h.1, fun i dv e => by
  obtain ⟨v, q, r⟩ := h.2 i dv e
  exact ⟨v, q, r.to g a⟩⟩
theorem SV.set (h : SV K M S H σ ρ) (i : Nat) (r : RD K M S H v dv) : SV K M S H (σ.set i (some v)) (ρ.set i (some dv)) := ⟨by simp [h.1], fun j dv' e => by
  by_cases hj : i = j
  · subst hj
    by_cases hl : i < ρ.length
    · rw [List.getElem?_set_self hl] at e
      cases e
      exact ⟨v, by rw [List.getElem?_set_self (by rw [h.1]; exact hl)], r⟩
    · rw [List.getElem?_eq_none (by simp; omega)] at e
      cases e
  · rw [List.getElem?_set_ne hj] at e
    obtain ⟨w, q, r'⟩ := h.2 j dv' e
    exact ⟨w, by rw [List.getElem?_set_ne hj]; exact q, r'⟩⟩
theorem SV.forget (h : SV K M S H σ ρ) (i : Nat) : SV K M S H (σ.set i none) (ρ.set i none) := ⟨by simp [h.1], fun j dv' e => by
  by_cases hj : i = j
  · subst hj
    by_cases hl : i < ρ.length
    · rw [List.getElem?_set_self hl] at e; cases e
    · rw [List.getElem?_eq_none (by simp; omega)] at e; cases e
  · rw [List.getElem?_set_ne hj] at e
    obtain ⟨w, q, r'⟩ := h.2 j dv' e
    exact ⟨w, by rw [List.getElem?_set_ne hj]; exact q, r'⟩⟩
end

/-! ### judgements by data -/
abbrev WE := DSt → (DV → Prop) → Prop
abbrev WT := DSt → (Bool → Prop) → Prop
abbrev WA := DSt → (List DV → Prop) → Prop
/-- the reading te of values does what w says of data -/
def EvE (K : PySem.W.Frag) (te : TE) (w : WE) : Prop := ∀ (M : List Addr) (S : So) (σ : L2.St) (ρ : DSt) (H : Hp), Gd M S H → SV K M S H σ ρ → ∀ φ : DV → Prop, w ρ φ →
  ∀ Q : VK, (∀ v dv H', To S H H' → RD K M S H' v dv → φ dv → Q v H') → te σ H Q
def EvT (K : PySem.W.Frag) (tt : TT) (w : WT) : Prop := ∀ (M : List Addr) (S : So) (σ : L2.St) (ρ : DSt) (H : Hp), Gd M S H → SV K M S H σ ρ → ∀ φ : Bool → Prop, w ρ φ →
  ∀ Q : Bool → Hp → Prop, (∀ b H', To S H H' → φ b → Q b H') → tt σ H Q
def EvA (K : PySem.W.Frag) (ta : TA) (w : WA) : Prop := ∀ (M : List Addr) (S : So) (σ : L2.St) (ρ : DSt) (H : Hp), Gd M S H → SV K M S H σ ρ → ∀ φ : List DV → Prop, w ρ φ →
  ∀ Q : List V → Hp → Prop, (∀ vs ds H', To S H H' → RDs K M S H' vs ds → φ ds → Q vs H') → ta σ H Q
structure DE (X : Cx) (e : Expr) (w : WE) : Prop where
  ex : ∃ t, PE X e t ∧ EvE X.K t w
structure DT (X : Cx) (e : Expr) (w : WT) : Prop where
  ex : ∃ t, PT X e t ∧ EvT X.K t w
structure DA (X : Cx) (es : List Expr) (w : WA) : Prop where
  ex : ∃ t, PA X es t ∧ EvA X.K t w

/-- a frame's state: Fr is what stays as it is; O the frame's own lists -/
structure SD (K : PySem.W.Frag) (A : List Addr) (S : So) (Fr : Hp) (O : List Addr) (σ : L2.St) (ρ : DSt) (H : Hp) : Prop where
  gd : Gd (O ++ A) S H
  fa : ∀ a ∈ Fo S, a ∈ A
  fr : Le Fr H
  frF : ∀ a ∈ Fo S, Fr a = none
  own : ∀ p ∈ O, p ∉ A ∧ Fr p = none
  sv : SV K (O ++ A) S H σ ρ
  apart : ∀ (i j : Nat) xs ys (p : Addr), ρ[i]? = some (some (.own xs)) → ρ[j]? = some (some (.own ys)) → σ[i]? = some (some (.ref p)) → σ[j]? = some (some (.ref p)) → p ∈ O → i = j
structure DEnds where
  nx : DSt → Prop
  rt : DV → Prop
  bk : DSt → Prop := fun _ => False
  ct : DSt → Prop := fun _ => False
abbrev WS := DEnds → DSt → Prop
/-- ends by data lead to ends -/
structure Leads (K : PySem.W.Frag) (A : List Addr) (S : So) (Fr : Hp) (D : DEnds) (D' : Ends) : Prop where
  nx : ∀ O σ ρ H, SD K A S Fr O σ ρ H → D.nx ρ → D'.nx σ H
  rt : ∀ v dv H, (∀ a ∈ A, H a ≠ none) → Le Fr H → Jo S H → RD K A S H v dv → D.rt dv → D'.rt v H
  bk : ∀ O σ ρ H, SD K A S Fr O σ ρ H → D.bk ρ → D'.bk σ H
  ct : ∀ O σ ρ H, SD K A S Fr O σ ρ H → D.ct ρ → D'.ct σ H
def EvS (K : PySem.W.Frag) (ts : TS) (w : WS) : Prop := ∀ (A : List Addr) (S : So) (Fr : Hp) (O : List Addr) (σ : L2.St) (ρ : DSt) (H : Hp), SD K A S Fr O σ ρ H → ∀ (D : DEnds) (D' : Ends), Leads K A S Fr D D' → w D ρ → ts D' σ H
structure DS (X : Cx) (st : Stmt) (w : WS) : Prop where
  ex : ∃ t, PS X st t ∧ EvS X.K t w
structure DSs (X : Cx) (st : List Stmt) (w : WS) : Prop where
  ex : ∃ t, PSs X st t ∧ EvS X.K t w

section
variable {K : PySem.W.Frag} {A : List Addr} {S : So} {Fr : Hp} {O : List Addr} {σ : L2.St} {ρ : DSt} {H H1 : Hp} {D : DEnds} {D' : Ends}
theorem SD.to (d : SD K A S Fr O σ ρ H) (a : To S H H1) : SD K A S Fr O σ ρ H1 where
  gd := a.gd d.gd
  fa := d.fa
  fr := fun x o h => a.kp x o (fun z => by rw [d.frF x z] at h; cases h) (d.fr x o h)
  frF := d.frF
  own := d.own
  sv := d.sv.to d.gd a
  apart := d.apart
theorem SD.set {v : V} {dt : PD} (d : SD K A S Fr O σ ρ H) (i : Nat) (r : RD K (O ++ A) S H v (.dat dt)) : SD K A S Fr O (σ.set i (some v)) (ρ.set i (some (.dat dt))) H where
  gd := d.gd
  fa := d.fa
  fr := d.fr
  frF := d.frF
  own := d.own
  sv := d.sv.set i r
  apart := fun j k xs ys p h1 h2 h3 h4 h5 => by
    have key : ∀ (j : Nat) (xs : List PD), (ρ.set i (some (.dat dt)))[j]? = some (some (.own xs)) → i ≠ j ∧ ρ[j]? = some (some (.own xs)) := fun j xs h => by
      by_cases hj : i = j
      · subst hj
        by_cases hl : i < ρ.length
        · rw [List.getElem?_set_self hl] at h; cases h
        · rw [List.getElem?_eq_none (by simp; omega)] at h; cases h
      · rw [List.getElem?_set_ne hj] at h; exact ⟨hj, h⟩
    obtain ⟨n1, e1⟩ := key j xs h1
    obtain ⟨n2, e2⟩ := key k ys h2
    rw [List.getElem?_set_ne n1] at h3
    rw [List.getElem?_set_ne n2] at h4
    exact d.apart j k xs ys p e1 e2 h3 h4 h5
theorem SD.forget (d : SD K A S Fr O σ ρ H) (i : Nat) : SD K A S Fr O (σ.set i none) (ρ.set i none) H where
  gd := d.gd
  fa := d.fa
  fr := d.fr
  frF := d.frF
  own := d.own
  sv := d.sv.forget i
  apart := fun j k xs ys p h1 h2 h3 h4 h5 => by
    have key : ∀ (j : Nat) (xs : List PD), (ρ.set i none)[j]? = some (some (.own xs)) → i ≠ j ∧ ρ[j]? = some (some (.own xs)) := fun j xs h => by
      by_cases hj : i = j
      · subst hj
        by_cases hl : i < ρ.length
        · rw [List.getElem?_set_self hl] at h; cases h
        · rw [List.getElem?_eq_none (by simp; omega)] at h; cases h
      · rw [List.getElem?_set_ne hj] at h; exact ⟨hj, h⟩
    obtain ⟨n1, e1⟩ := key j xs h1
    obtain ⟨n2, e2⟩ := key k ys h2
    rw [List.getElem?_set_ne n1] at h3
    rw [List.getElem?_set_ne n2] at h4
    exact d.apart j k xs ys p e1 e2 h3 h4 h5
theorem RD.wide {v : V} {dt : PD} {M N : List Addr} (h : ∀ a ∈ M, a ∈ N) (r : RD K N S H v (.dat dt)) : RD K M S H v (.dat dt) := dp_le (msk_sub h) r
theorem sub_app {O A : List Addr} : ∀ a ∈ A, a ∈ O ++ A := fun _ h => List.mem_append_right _ h
theorem RDs.get : ∀ {M : List Addr} {vs : List V} {ds : List DV} {i : Nat} {dv : DV}, RDs K M S H vs ds → ds[i]? = some dv → ∃ v, vs[i]? = some v ∧ RD K M S H v dv
  | _, [], [], _, _, _, e => by simp at e
  | _, v :: vs, d :: ds, 0, dv, h, e => by
    simp at e; subst e
    exact ⟨v, rfl, h.1⟩
  | M, v :: vs, d :: ds, i + 1, dv, h, e => by
    obtain ⟨w, h1, h2⟩ := RDs.get (M := M) (i := i) h.2 (by simpa using e)
    exact ⟨w, by simpa using h1, h2⟩
  | _, [], _ :: _, _, _, h, _ => h.elim
  | _, _ :: _, [], _, _, h, _ => h.elim
theorem RDs.len : ∀ {M : List Addr} {vs : List V} {ds : List DV}, RDs K M S H vs ds → vs.length = ds.length
  | _, [], [], _ => rfl
  | M, _ :: _, _ :: _, h => by simp [RDs.len (M := M) h.2]
  | _, [], _ :: _, h => h.elim
  | _, _ :: _, [], h => h.elim
end

/-! ### what a def does, by data -/
abbrev FS := List DV → (DV → Prop) → Prop
/-- the promise of a def that does fs -/
def spD (K : PySem.W.Frag) (n : Nat) (fs : FS) : Sp := fun vs H Q _ => vs.length = n ∧ ∃ (A : List Addr) (S : So) (ds : List DV) (φ : DV → Prop), Gd A S H ∧ RDs K A S H vs ds ∧ fs ds φ ∧
  ∀ v dv H', To S H H' → RD K A S H' v dv → φ dv → Q v H'
@[simp] def dstart (n : Nat) (ds : List DV) : DSt := ds.map some ++ List.replicate (n - ds.length) none

/-- a def keeps what its body does by data -/
theorem okD {P : Program} {w : World} {K : PySem.W.Frag} {mg : Str → Option Value} {base : Heap} {x qual : Str} {st : Stmt} {f : Addr} {fd : FuncData} {N ps : List Str} {k : Nat} {fs : FS} (F : Fun K x qual st f fd) (S : FnScope N ps (defScope st))
    (body : ∀ (cdv : Value) (A : Around) (outer : List Env) (s : Shared) (H : Hp) (E : XK),
      (A.deeper (envOfC qual (defScope st) s.heap.objs.size f cdv)).guards = some [] → Room k (A.deeper (envOfC qual (defScope st) s.heap.objs.size f cdv)) →
        ∃ w', DSs (cxOf CX0 P w K mg base N qual (defScope st) f cdv A outer s H E).nox (defBody st) w' ∧
          ∀ ds φ, ds.length = ps.length → fs ds φ → w' { nx := fun _ => φ (.dat .none), rt := φ } (dstart N.length ds)) :
    FnG P w K mg base CX0 (k + 1) f fd ps (spD K ps.length fs) := by
  refine okG F S (fun vs H Q E h => h.1) fun cdv A outer s H vs Q E grd room want => ?_
  obtain ⟨w', ⟨t, ht, ev⟩, hw⟩ := body cdv A outer s H E grd room
  refine ⟨t, ht.nox, ?_⟩
  obtain ⟨hl, M, So, ds, φ, gd, rel, hf, hQ⟩ := want
  have ld := rel.len
  have sv : SV K M So H (L2.start N vs) (dstart N.length ds) := by
    refine ⟨by simp [L2.start, dstart, ld], fun i dv e => ?_⟩
    unfold dstart at e
    by_cases hi : i < ds.length
    · rw [List.getElem?_append_left (by simpa using hi), List.getElem?_map] at e
      cases q : ds[i]? with
      | none => rw [q] at e; cases e
      | some d =>
        rw [q] at e
        cases e
        obtain ⟨v, h1, h2⟩ := rel.get q
        refine ⟨v, ?_, h2⟩
        unfold L2.start
        rw [List.getElem?_append_left (by simp; omega), List.getElem?_map, h1]
        rfl
    · rw [List.getElem?_append_right (by simpa using hi), List.getElem?_replicate] at e
      split at e <;> cases e
  have frs : ∀ a, a ∉ Fo So → ∀ o, H a = some o → (fun a => if a ∈ Fo So then none else H a : Hp) a = some o := fun a n o e => (if_neg n).trans e
  have sd : SD K M So (fun a => if a ∈ Fo So then none else H a) [] (L2.start N vs) (dstart N.length ds) H :=
    { gd := gd, fa := gd.fo, sv := sv, frF := fun a h => if_pos h, own := fun p h => (nomatch h), apart := fun i j xs ys p _ _ _ _ h => (nomatch h),
      fr := by
        intro a o e
        by_cases z : a ∈ Fo So
        · exact absurd ((if_pos z).symm.trans e) (fun q => nomatch q)
        · exact (if_neg z).symm.trans e }
  have toOf : ∀ {H' : Hp}, (∀ a ∈ M, H' a ≠ none) → Le (fun a => if a ∈ Fo So then none else H a) H' → Jo So H' → To So H H' := fun {H'} g1 g2 g3 =>
    { kp := fun a o n e => g2 a o (frs a n o e), jo := fun _ => g3,
      dom := by
        intro a h z
        by_cases m : a ∈ M
        · exact g1 a m z
        · cases q : H a with
          | none => exact h q
          | some o =>
            rw [g2 a o (frs a (fun y => m (gd.fo a y)) o q)] at z
            cases z }
  refine ev M So _ [] _ _ H sd _ _ ⟨fun O σ ρ H' d h => ?_, fun v dv H' g1 g2 g3 r h => ?_, fun O σ ρ H' d h => h, fun O σ ρ H' d h => h⟩ (hw ds φ (ld.symm.trans hl) hf)
  · refine hQ .non (.dat .none) H' (toOf (fun a h => d.gd.dom a (sub_app a h)) d.fr d.gd.jo) ?_ h
    exact Dq.non
  · exact hQ v dv H' (toOf g1 g2 g3) r h
end Vf

set_option Elab.async false
set_option linter.all false
set_option maxRecDepth 100000
set_option maxHeartbeats 4000000
/-! Vf3: rules of expressions by data -/
namespace Vf
open PySem PySem.Spec PyProof.Rows L2

abbrev di (i : Int) : DV := .dat (.int i)
abbrev db (b : Bool) : DV := .dat (.bool b)
@[simp] def asD : DV → Option PD
  | .dat d => some d
  | .own xs => some (.list xs)
  | .src => none
@[simp] def seqD : DV → Option (List PD)
  | .dat (.list xs) => some xs
  | .dat (.tuple xs) => some xs
  | .own xs => some xs
  | _ => none
section
variable {K : PySem.W.Frag} {M : List Addr} {S : So} {H H1 : Hp} {v : V} {dv : DV} {d : PD} {ds : List PD}
theorem RD.full : ∀ {dv : DV}, RD K M S H v dv → asD dv = some d → Dp K H v d
  | .dat _, r, e => by
    cases e
    exact (dp_le msk_le r).dp
  | .own _, ⟨p, vs, e1, _, _, q, hs⟩, e => by
    cases e
    subst e1
    exact (Dq.lst q (dps_le msk_le hs)).dp
  | .src, _, e => nomatch e
theorem RD.seq : ∀ {dv : DV}, RD K M S H v dv → seqD dv = some ds → ∃ a xs, v = .ref a ∧ (SqL K H a xs ∨ SqT K H a xs) ∧ DqAll K (msk M H) xs ds
  | .dat (.list _), r, e => by
    cases e
    obtain ⟨a, xs, e1, h, hs⟩ := dp_lst_inv r
    exact ⟨a, xs, e1, .inl (SqL.of (msk_le _ _ h)), hs⟩
  | .dat (.tuple _), r, e => by
    cases e
    obtain ⟨a, xs, e1, h, hs⟩ := dp_tup_inv r
    exact ⟨a, xs, e1, .inr (sqt_le msk_le h), hs⟩
  | .own _, ⟨p, vs, e1, _, _, q, hs⟩, e => by
    cases e
    exact ⟨p, vs, e1, .inl (.inl (.inl q)), hs⟩
  | .dat .none, _, e | .dat (.bool _), _, e | .dat (.int _), _, e | .dat (.str _), _, e | .dat (.dict _), _, e | .src, _, e => nomatch e
theorem RD.int {i : Int} (r : RD K M S H v (di i)) : v = .int i := dp_int_inv r
theorem RD.bl {b : Bool} (r : RD K M S H v (db b)) : v = .bl b := by cases r; rfl
theorem RD.str {x : Str} (r : RD K M S H v (.dat (.str x))) : v = .str x := by cases r; rfl
theorem rd_newT {p : Addr} {xs : List V} (g : Gd M S H) (h : H p = none) (hs : DqAll K (msk M H) xs ds) : RD K M S (upd H p (.tup xs)) (.ref p) (.dat (.tuple ds)) := by
  have n : p ∉ M := g.fresh h
  refine .tup (.inl (.inl ?_)) (dps_le ((To.new h).msk g) hs)
  rw [msk_out n, upd_same]
theorem rd_newL {p : Addr} {xs : List V} (g : Gd M S H) (h : H p = none) (hs : DqAll K (msk M H) xs ds) : RD K M S (upd H p (.lst xs)) (.ref p) (.dat (.list ds)) := by
  have n : p ∉ M := g.fresh h
  refine .lst ?_ (dps_le ((To.new h).msk g) hs)
  rw [msk_out n, upd_same]
end

theorem rd_int {K : PySem.W.Frag} {M : List Addr} {S : So} {H : Hp} {i : Int} : RD K M S H (.int i) (di i) := Dq.int i
theorem rd_bl {K : PySem.W.Frag} {M : List Addr} {S : So} {H : Hp} {i : Bool} : RD K M S H (.bl i) (db i) := Dq.bl i
theorem rd_non {K : PySem.W.Frag} {M : List Addr} {S : So} {H : Hp} : RD K M S H .non (.dat .none) := Dq.non
theorem rd_str {K : PySem.W.Frag} {M : List Addr} {S : So} {H : Hp} {x : Str} : RD K M S H (.str x) (.dat (.str x)) := Dq.str x
/-- an operation of values, by data; a call of a built-in by data -/
def OG (X : Cx) (f : Value → Value → Sem Value) (g : DV → DV → (DV → Prop) → Prop) : Prop := ∃ r, OpR X f r ∧
  ∀ (M : List Addr) (S : So) (H : Hp) (x y : V) (dx dy : DV), Gd M S H → RD X.K M S H x dx → RD X.K M S H y dy → ∀ φ : DV → Prop, g dx dy φ →
    ∀ Q : VK, (∀ v dv H', To S H H' → RD X.K M S H' v dv → φ dv → Q v H') → r x y H Q
def CG (X : Cx) (f : Value) (g : List DV → (DV → Prop) → Prop) : Prop := ∃ r, CallR X f r ∧
  ∀ (M : List Addr) (S : So) (H : Hp) (xs : List V) (ds : List DV), Gd M S H → RDs X.K M S H xs ds → ∀ φ : DV → Prop, g ds φ →
    ∀ Q : VK, (∀ v dv H', To S H H' → RD X.K M S H' v dv → φ dv → Q v H') → r xs H Q

/-! ### names, constants -/
@[simp] def wVar (i : Nat) : WE := fun ρ φ => ∃ dv, ρ[i]? = some (some dv) ∧ φ dv
@[simp] def wC (d : PD) : WE := fun _ φ => φ (.dat d)
section
variable {X : Cx} {pos : Pos}
theorem dv (i : Nat) {x : Str} {pos : Pos} (hN : X.N[i]? = some x := by rfl) (hv : Vis X.env.scope x := by first | exact Or.inl rfl | exact Or.inr (Or.inl rfl) | exact Or.inr (Or.inr rfl)) (hd : (x == ("__debug__" : Str)) = false := by decide)
    (hcd : (x == ("__classdict__" : Str)) = false := by decide) : DE X (.Name x pos) (wVar i) :=
  ⟨_, pe_var hN hv hd hcd, fun M S σ ρ H g sv φ ⟨d, e, h⟩ Q hQ => by
    obtain ⟨v, q, r⟩ := sv.2 i d e
    exact ⟨v, q, hQ v d H .refl r h⟩⟩
theorem de_int {i j} : DE X (.Constant (.int i) j pos) (wC (.int i)) := ⟨_, pe_int, fun _ _ _ _ H _ _ _ h Q hQ => hQ _ _ H .refl rd_int h⟩
theorem de_bl {b j} : DE X (.Constant (.bool b) j pos) (wC (.bool b)) := ⟨_, pe_bl, fun _ _ _ _ H _ _ _ h Q hQ => hQ _ _ H .refl rd_bl h⟩
theorem de_non {j} : DE X (.Constant .none j pos) (wC .none) := ⟨_, pe_non, fun _ _ _ _ H _ _ _ h Q hQ => hQ _ _ H .refl rd_non h⟩
theorem de_str {x j} : DE X (.Constant (.str x) j pos) (wC (.str x)) := ⟨_, pe_str, fun _ _ _ _ H _ _ _ h Q hQ => hQ _ _ H .refl rd_str h⟩
/-- a constant of the module -/
theorem de_globI {x : Str} {i : Int} {t : Tok} (hg : Gl X x) (hm : X.mg x = some (.int i t)) (hd : (x == ("__debug__" : Str)) = false := by decide) : DE X (.Name x pos) (wC (.int i)) :=
  ⟨_, pe_glob (v := .int i) hg hm ⟨t, rfl⟩ hd, fun _ _ _ _ H _ _ _ h Q hQ => hQ _ _ H .refl rd_int h⟩
end

/-! ### operators -/
abbrev G2 := DV → DV → (DV → Prop) → Prop
def DR2 (K : PySem.W.Frag) (r : R2) (g : G2) : Prop := ∀ (M : List Addr) (S : So) (H : Hp) (x y : V) (dx dy : DV), Gd M S H → RD K M S H x dx → RD K M S H y dy → ∀ φ : DV → Prop, g dx dy φ →
  ∀ Q : VK, (∀ v dv H', To S H H' → RD K M S H' v dv → φ dv → Q v H') → r x y H Q
@[simp] def wOp (g : G2) (wa wb : WE) : WE := fun ρ φ => wa ρ fun x => wb ρ fun y => g x y φ
theorem evOp {K : PySem.W.Frag} {r : R2} {g : G2} {ta tb : TE} {wa wb : WE} (hd : DR2 K r g) (ea : EvE K ta wa) (eb : EvE K tb wb) : EvE K (tOp r ta tb) (wOp g wa wb) := by
  intro M S σ ρ H gd sv φ h Q hQ
  refine ea M S σ ρ H gd sv _ h _ fun x dx H1 a1 rx h1 => ?_
  refine eb M S σ ρ H1 (a1.gd gd) (sv.to gd a1) _ h1 _ fun y dy H2 a2 ry h2 => ?_
  exact hd M S H2 x y dx dy (a2.gd (a1.gd gd)) (rx.to (a1.gd gd) a2) ry φ h2 Q fun v dv H3 a3 r3 h3 => hQ v dv H3 ((a1.trans a2).trans a3) r3 h3
section
variable {X : Cx} {a b c : Expr} {wa wb wc : WE} {r : R2} {g : G2} {pos : Pos}
theorem de_op {op : Operator} (ho : OG X (binaryOp op) g) (ha : DE X a wa) (hb : DE X b wb) : DE X (.BinOp a op b pos) (wOp g wa wb) := by
  obtain ⟨ta, pa, ea⟩ := ha
  obtain ⟨tb, pb, eb⟩ := hb
  obtain ⟨r, h1, h2⟩ := ho
  exact ⟨_, pe_op h1 pa pb, evOp h2 ea eb⟩
theorem de_cmp {op : CmpOp} (ho : OG X (compareOp op) g) (ha : DE X a wa) (hb : DE X b wb) (hm : behindInMarks op b = false := by first | exact nomark _ | rfl) : DE X (.Compare a [op] [b] pos) (wOp g wa wb) := by
  obtain ⟨ta, pa, ea⟩ := ha
  obtain ⟨tb, pb, eb⟩ := hb
  obtain ⟨r, h1, h2⟩ := ho
  exact ⟨_, pe_cmpR h1 pa pb hm, evOp h2 ea eb⟩
@[simp] def wTest (w : WE) : WT := fun ρ φ => w ρ fun dv => ∃ k, dv = db k ∧ φ k
theorem evTest {K : PySem.W.Frag} {t : TE} {w : WE} (e : EvE K t w) : EvT K (tTest t) (wTest w) := by
  intro M S σ ρ H gd sv φ h Q hQ
  refine e M S σ ρ H gd sv _ h _ ?_
  rintro v _ H1 a1 rx ⟨k, rfl, h1⟩
  exact ⟨k, rx.bl, hQ k H1 a1 h1⟩
theorem dt_cmp {op : CmpOp} (ho : OG X (compareOp op) g) (ha : DE X a wa) (hb : DE X b wb) (hm : behindInMarks op b = false := by first | exact nomark _ | rfl) : DT X (.Compare a [op] [b] pos) (wTest (wOp g wa wb)) := by
  obtain ⟨ta, pa, ea⟩ := ha
  obtain ⟨tb, pb, eb⟩ := hb
  obtain ⟨r, h1, h2⟩ := ho
  exact ⟨_, pt_cmpR h1 pa pb hm, evTest (evOp h2 ea eb)⟩
/-- an expression that gives a truth value, as a test -/
theorem dt_val {e : Expr} {w : WE} (h : DE X e w) (he : ∀ whole, isTrue e X.env whole = (do let v ← whole; standAt e.pos; holding [v] (truthy v)) := by intro _; rfl) : DT X e (wTest w) := by
  obtain ⟨t, p, e⟩ := h
  exact ⟨_, pt_val p he, evTest e⟩

@[simp] def gI (C : Int → Int → Prop) (f : Int → Int → Int) : G2 := fun x y φ => ∃ i j, x = di i ∧ y = di j ∧ C i j ∧ φ (di (f i j))
@[simp] def gI0 (f : Int → Int → Int) : G2 := fun x y φ => ∃ i j, x = di i ∧ y = di j ∧ φ (di (f i j))
@[simp] def gB0 (f : Int → Int → Bool) : G2 := fun x y φ => ∃ i j, x = di i ∧ y = di j ∧ φ (db (f i j))
theorem dr_I {K : PySem.W.Frag} {C : Int → Int → Prop} {f : Int → Int → Int} : DR2 K (rI C fun i j => .int (f i j)) (gI C f) := by
  rintro M S H x y _ _ gd rx ry φ ⟨i, j, rfl, rfl, hc, h⟩ Q hQ
  exact ⟨i, j, rx.int, ry.int, hc, hQ _ _ H .refl rd_int h⟩
theorem dr_I0 {K : PySem.W.Frag} {f : Int → Int → Int} : DR2 K (rI0 fun i j => .int (f i j)) (gI0 f) := by
  rintro M S H x y _ _ gd rx ry φ ⟨i, j, rfl, rfl, h⟩ Q hQ
  exact ⟨i, j, rx.int, ry.int, hQ _ _ H .refl rd_int h⟩
theorem dr_B0 {K : PySem.W.Frag} {f : Int → Int → Bool} : DR2 K (rI0 fun i j => .bl (f i j)) (gB0 f) := by
  rintro M S H x y _ _ gd rx ry φ ⟨i, j, rfl, rfl, h⟩ Q hQ
  exact ⟨i, j, rx.int, ry.int, hQ _ _ H .refl rd_bl h⟩
theorem o_add : OG X (binaryOp .Add) (gI0 (· + ·)) := ⟨_, op_add, dr_I0⟩
theorem o_sub : OG X (binaryOp .Sub) (gI0 (· - ·)) := ⟨_, op_sub, dr_I0⟩
theorem o_mul : OG X (binaryOp .Mult) (gI CMul (· * ·)) := ⟨_, op_mul, dr_I⟩
theorem o_div : OG X (binaryOp .FloorDiv) (gI CDiv (· / ·)) := ⟨_, op_fdiv, dr_I⟩
theorem o_mod : OG X (binaryOp .Mod) (gI (fun _ j => 0 < j) (· % ·)) := ⟨_, op_mod, dr_I⟩
theorem o_lt : OG X (compareOp .Lt) (gB0 fun i j => decide (i < j)) := ⟨_, op_lt, dr_B0⟩
theorem o_le : OG X (compareOp .LtE) (gB0 fun i j => decide (i ≤ j)) := ⟨_, op_le, dr_B0⟩
theorem o_gt : OG X (compareOp .Gt) (gB0 fun i j => decide (j < i)) := ⟨_, op_gt, dr_B0⟩
theorem o_ge : OG X (compareOp .GtE) (gB0 fun i j => decide (j ≤ i)) := ⟨_, op_ge, dr_B0⟩
/-- == and != of data -/
@[simp] def gEq : G2 := fun x y φ => ∃ d e, asD x = some d ∧ asD y = some e ∧ SeqAt.shaped d = true ∧ SeqAt.shaped e = true ∧ φ (db (PyData.eqv d e))
@[simp] def gNe : G2 := fun x y φ => ∃ d e, asD x = some d ∧ asD y = some e ∧ SeqAt.shaped d = true ∧ SeqAt.shaped e = true ∧ φ (db (!PyData.eqv d e))
theorem o_eq {k : Nat} (room : Room k X.A) : OG X (compareOp .Eq) gEq := ⟨_, op_eqD room.units, by
  rintro M S H x y dx dy gd rx ry φ ⟨d, e, e1, e2, s1, s2, h⟩ Q hQ
  exact ⟨d, e, rx.full e1, ry.full e2, s1, s2, hQ _ _ H .refl rd_bl h⟩⟩
theorem o_ne {k : Nat} (room : Room k X.A) : OG X (compareOp .NotEq) gNe := ⟨_, op_neD room.units, by
  rintro M S H x y dx dy gd rx ry φ ⟨d, e, e1, e2, s1, s2, h⟩ Q hQ
  exact ⟨d, e, rx.full e1, ry.full e2, s1, s2, hQ _ _ H .refl rd_bl h⟩⟩
/-- is None, is not None -/
@[simp] def isNon : DV → Bool
  | .dat .none => true
  | _ => false
theorem RD.isNon {K : PySem.W.Frag} {M : List Addr} {S : So} {H : Hp} {v : V} : ∀ {dv : DV}, RD K M S H v dv → decide (v = .non) = isNon dv
  | .dat .none, r => by cases r; rfl
  | .dat (.bool _), r => by cases r; rfl
  | .dat (.int _), r => by cases r; rfl
  | .dat (.str _), r => by cases r; rfl
  | .dat (.list _), r => by cases r; rfl
  | .dat (.tuple _), r => by cases r; rfl
  | .dat (.dict _), r => by cases r
  | .own _, ⟨p, _, e, _⟩ => by subst e; rfl
  | .src, ⟨p, _, _, e⟩ => by subst e; rfl
@[simp] def gIsN : G2 := fun x y φ => y = .dat .none ∧ φ (db (isNon x))
@[simp] def gNotN : G2 := fun x y φ => y = .dat .none ∧ φ (db (!isNon x))
theorem o_isN : OG X (compareOp .Is) gIsN := ⟨_, op_isN, by
  rintro M S H x y dx _ gd rx ry φ ⟨rfl, h⟩ Q hQ
  refine ⟨by cases ry; rfl, ?_⟩
  rw [rx.isNon]
  exact hQ _ _ H .refl rd_bl h⟩
theorem o_notN : OG X (compareOp .IsNot) gNotN := ⟨_, op_notN, by
  rintro M S H x y dx _ gd rx ry φ ⟨rfl, h⟩ Q hQ
  refine ⟨by cases ry; rfl, ?_⟩
  rw [rx.isNon]
  exact hQ _ _ H .refl rd_bl h⟩
end

/-! ### arguments, displays -/
@[simp] def wNil : WA := fun _ φ => φ []
@[simp] def wCons (wa : WE) (wr : WA) : WA := fun ρ φ => wa ρ fun x => wr ρ fun xs => φ (x :: xs)
section
variable {X : Cx} {e : Expr} {es : List Expr} {we : WE} {wr : WA} {pos : Pos}
theorem da_nil : DA X [] wNil := ⟨_, pa_nil, fun _ _ _ _ H _ _ _ h Q hQ => hQ [] [] H .refl trivial h⟩
theorem da_cons (ha : DE X e we) (hr : DA X es wr) (hs : starEach (e :: es) X.env = (false, eval e X.env) :: starEach es X.env := by rfl) : DA X (e :: es) (wCons we wr) := by
  obtain ⟨ta, pa, ea⟩ := ha
  obtain ⟨tr, pr, er⟩ := hr
  refine ⟨_, pa_cons pa pr hs, ?_⟩
  intro M S σ ρ H gd sv φ h Q hQ
  refine ea M S σ ρ H gd sv _ h _ fun x dx H1 a1 rx h1 => ?_
  refine er M S σ ρ H1 (a1.gd gd) (sv.to gd a1) _ h1 _ fun xs ds H2 a2 rs h2 => ?_
  exact hQ _ (dx :: ds) H2 (a1.trans a2) ⟨rx.to (a1.gd gd) a2, rs⟩ h2
@[simp] def allDat : List DV → Option (List PD)
  | [] => some []
  | .dat d :: r => (allDat r).map (d :: ·)
  | _ :: _ => none
theorem allDat_map : ∀ {ds : List DV} {ps : List PD}, allDat ds = some ps → ds = ps.map .dat
  | [], _, h => by cases h; rfl
  | .dat d :: r, ps, h => by
    unfold allDat at h
    cases e : allDat r with
    | none => rw [e] at h; cases h
    | some qs =>
      rw [e] at h
      cases h
      rw [allDat_map e]
      rfl
  | .own _ :: _, _, h => nomatch h
  | .src :: _, _, h => nomatch h
theorem rds_dat {K : PySem.W.Frag} {M : List Addr} {S : So} {H : Hp} : ∀ {xs : List V} {ps : List PD}, RDs K M S H xs (ps.map .dat) → DqAll K (msk M H) xs ps
  | [], [], _ => .nil
  | _ :: _, _ :: _, h => .cons h.1 (rds_dat h.2)
  | [], _ :: _, h => h.elim
  | _ :: _, [], h => h.elim
@[simp] def wTup (wa : WA) : WE := fun ρ φ => wa ρ fun ds => ∃ ps : List PD, allDat ds = some ps ∧ ps.length ≤ sizeLine ∧ φ (.dat (.tuple ps))
@[simp] def wLst (wa : WA) : WE := fun ρ φ => wa ρ fun ds => ∃ ps : List PD, allDat ds = some ps ∧ ps.length ≤ sizeLine ∧ φ (.dat (.list ps))
theorem de_tup {x1} (h : DA X es wr) : DE X (.Tuple es x1 pos) (wTup wr) := by
  obtain ⟨t, p, ev⟩ := h
  refine ⟨_, pe_tup p, ?_⟩
  intro M S σ ρ H gd sv φ h Q hQ
  refine ev M S σ ρ H gd sv _ h _ ?_
  rintro xs ds H1 a1 rs ⟨ps, e, hz, h1⟩
  have e' := allDat_map e
  subst e'
  have hs := rds_dat rs
  refine ⟨by rw [dps_len hs]; exact hz, fun p hp => hQ _ _ _ (a1.trans (To.new hp)) (rd_newT (a1.gd gd) hp hs) h1⟩
theorem de_lst (h : DA X es wr) : DE X (.List es pos) (wLst wr) := by
  obtain ⟨t, p, ev⟩ := h
  refine ⟨_, pe_lst p, ?_⟩
  intro M S σ ρ H gd sv φ h Q hQ
  refine ev M S σ ρ H gd sv _ h _ ?_
  rintro xs ds H1 a1 rs ⟨ps, e, hz, h1⟩
  have e' := allDat_map e
  subst e'
  have hs := rds_dat rs
  refine ⟨by rw [dps_len hs]; exact hz, fun p hp => hQ _ _ _ (a1.trans (To.new hp)) (rd_newL (a1.gd gd) hp hs) h1⟩
end

/-! ### calls of built-ins -/
abbrev GC := List DV → (DV → Prop) → Prop
def DRC (K : PySem.W.Frag) (r : List V → Hp → VK → Prop) (g : GC) : Prop := ∀ (M : List Addr) (S : So) (H : Hp) (xs : List V) (ds : List DV), Gd M S H → RDs K M S H xs ds → ∀ φ : DV → Prop, g ds φ →
  ∀ Q : VK, (∀ v dv H', To S H H' → RD K M S H' v dv → φ dv → Q v H') → r xs H Q
@[simp] def wCB (g : GC) (wa : WA) : WE := fun ρ φ => wa ρ fun ds => g ds φ
theorem evCB {K : PySem.W.Frag} {r : List V → Hp → VK → Prop} {g : GC} {t : TA} {wa : WA} (hd : DRC K r g) (ea : EvA K t wa) : EvE K (tCB r t) (wCB g wa) := by
  intro M S σ ρ H gd sv φ h Q hQ
  refine ea M S σ ρ H gd sv _ h _ fun xs ds H1 a1 rs h1 => ?_
  exact hd M S H1 xs ds (a1.gd gd) rs φ h1 Q fun v dv H3 a3 r3 h3 => hQ v dv H3 (a1.trans a3) r3 h3
section
variable {X : Cx} {x : Str} {p pos : Pos} {e : Expr} {es : List Expr} {wa : WA} {id T : String} {r : List V → Hp → VK → Prop} {g : GC}
theorem de_callB (hc : CG X (.builtin id) g) (hg : Gl X x) (hm : X.mg x = none) (hv : bootBuiltins x = some (.builtin id)) (ha : DA X (e :: es) wa) (hn : x ≠ "__name__" := by decide) (hdb : (x == ("__debug__" : Str)) = false := by decide)
    (he : starEach (e :: es) X.env = (false, eval e X.env) :: starEach es X.env := by rfl) (hpl : (backTo pos (starEach es X.env)).any (·.1) = false := by rfl) : DE X (.Call (.Name x p) (e :: es) [] pos) (wCB g wa) := by
  obtain ⟨t, pt, ev⟩ := ha
  obtain ⟨r, h1, h2⟩ := hc
  exact ⟨_, pe_callB h1 hg hm hv pt hn hdb he hpl, evCB h2 ev⟩
theorem de_callTy (hc : CG X (.type T) g) (hg : Gl X x) (hm : X.mg x = none) (hv : bootBuiltins x = some (.type T)) (ha : DA X (e :: es) wa) (hn : x ≠ "__name__" := by decide) (hdb : (x == ("__debug__" : Str)) = false := by decide)
    (he : starEach (e :: es) X.env = (false, eval e X.env) :: starEach es X.env := by rfl) (hpl : (backTo pos (starEach es X.env)).any (·.1) = false := by rfl) : DE X (.Call (.Name x p) (e :: es) [] pos) (wCB g wa) := by
  obtain ⟨t, pt, ev⟩ := ha
  obtain ⟨r, h1, h2⟩ := hc
  exact ⟨_, pe_callTy h1 hg hm hv pt hn hdb he hpl, evCB h2 ev⟩
theorem rds1 {K : PySem.W.Frag} {M : List Addr} {S : So} {H : Hp} : ∀ {xs : List V} {d : DV}, RDs K M S H xs [d] → ∃ x, xs = [x] ∧ RD K M S H x d
  | [], _, h => h.elim
  | [x], _, h => ⟨x, rfl, h.1⟩
  | _ :: _ :: _, _, h => h.2.elim
theorem rds2 {K : PySem.W.Frag} {M : List Addr} {S : So} {H : Hp} : ∀ {xs : List V} {d e : DV}, RDs K M S H xs [d, e] → ∃ x y, xs = [x, y] ∧ RD K M S H x d ∧ RD K M S H y e
  | [], _, _, h => h.elim
  | [_], _, _, h => h.2.elim
  | [x, y], _, _, h => ⟨x, y, rfl, h.1, h.2.1⟩
  | _ :: _ :: _ :: _, _, _, h => h.2.2.elim
@[simp] def cLen : GC := fun ds φ => ∃ d xs, ds = [d] ∧ seqD d = some xs ∧ φ (di xs.length)
theorem b_len : CG X (.builtin "len") cLen := ⟨_, call_len, by
  rintro M S H xs _ gd rs φ ⟨d, ys, rfl, e, h⟩ Q hQ
  obtain ⟨x, rfl, r⟩ := rds1 rs
  obtain ⟨a, us, rfl, sq, hs⟩ := r.seq e
  refine ⟨_, us.length, rfl, sq.elim (fun q => .inl ⟨us, q, rfl⟩) (fun q => .inr ⟨us, q, rfl⟩), ?_⟩
  refine hQ _ (di ys.length) H .refl ?_ h
  rw [dps_len hs]
  exact rd_int⟩
@[simp] def cInt : GC := fun ds φ => (∃ i, ds = [di i] ∧ φ (di i)) ∨ ∃ b : Bool, ds = [db b] ∧ φ (di (if b then 1 else 0))
theorem b_int : CG X (.type "int") cInt := ⟨_, call_int1, by
  rintro M S H xs ds gd rs φ h Q hQ
  rcases h with ⟨i, rfl, h⟩ | ⟨b, rfl, h⟩
  · obtain ⟨x, rfl, r⟩ := rds1 rs
    exact .inl ⟨i, by rw [r.int], hQ _ _ H .refl rd_int h⟩
  · obtain ⟨x, rfl, r⟩ := rds1 rs
    exact .inr ⟨b, by rw [r.bl], hQ _ _ H .refl rd_int h⟩⟩
@[simp] def cAbs : GC := fun ds φ => ∃ i : Int, ds = [di i] ∧ φ (di (if i < 0 then -i else i))
theorem b_abs : CG X (.builtin "abs") cAbs := ⟨_, call_abs, by
  rintro M S H xs _ gd rs φ ⟨i, rfl, h⟩ Q hQ
  obtain ⟨x, rfl, r⟩ := rds1 rs
  exact ⟨i, by rw [r.int], hQ _ _ H .refl rd_int h⟩⟩
@[simp] def cMax2 : GC := fun ds φ => ∃ i j : Int, ds = [di i, di j] ∧ φ (di (if j > i then j else i))
@[simp] def cMin2 : GC := fun ds φ => ∃ i j : Int, ds = [di i, di j] ∧ φ (di (if j < i then j else i))
theorem b_max2 (hc : X.calm = true := by rfl) : CG X (.builtin "max") cMax2 := ⟨_, call_max2 hc, by
  rintro M S H xs _ gd rs φ ⟨i, j, rfl, h⟩ Q hQ
  obtain ⟨x, y, rfl, r1, r2⟩ := rds2 rs
  exact ⟨i, j, by rw [r1.int, r2.int], hQ _ _ H .refl rd_int h⟩⟩
theorem b_min2 (hc : X.calm = true := by rfl) : CG X (.builtin "min") cMin2 := ⟨_, call_min2 hc, by
  rintro M S H xs _ gd rs φ ⟨i, j, rfl, h⟩ Q hQ
  obtain ⟨x, y, rfl, r1, r2⟩ := rds2 rs
  exact ⟨i, j, by rw [r1.int, r2.int], hQ _ _ H .refl rd_int h⟩⟩
/-- tuple(list), tuple(tuple), list(seq) -/
@[simp] def cTuple : GC := fun ds φ => ∃ d xs, ds = [d] ∧ seqD d = some xs ∧ φ (.dat (.tuple xs))
@[simp] def cList : GC := fun ds φ => ∃ d xs, ds = [d] ∧ seqD d = some xs ∧ φ (.dat (.list xs))
theorem RD.seq2 {K : PySem.W.Frag} {M : List Addr} {S : So} {H : Hp} {v : V} {ds : List PD} : ∀ {dv : DV}, RD K M S H v dv → seqD dv = some ds →
    ∃ a xs, v = .ref a ∧ DqAll K (msk M H) xs ds ∧ (SqL K H a xs ∨ (SqT K H a xs ∧ RD K M S H v (.dat (.tuple ds))))
  | .dat (.list _), r, e => by
    cases e
    obtain ⟨a, xs, e1, h, hs⟩ := dp_lst_inv r
    exact ⟨a, xs, e1, hs, .inl (SqL.of (msk_le _ _ h))⟩
  | .dat (.tuple _), r, e => by
    cases e
    obtain ⟨a, xs, e1, h, hs⟩ := dp_tup_inv r
    exact ⟨a, xs, e1, hs, .inr ⟨sqt_le msk_le h, r⟩⟩
  | .own _, ⟨p, vs, e1, _, _, q, hs⟩, e => by
    cases e
    exact ⟨p, vs, e1, hs, .inl (.inl (.inl q))⟩
  | .dat .none, _, e | .dat (.bool _), _, e | .dat (.int _), _, e | .dat (.str _), _, e | .dat (.dict _), _, e | .src, _, e => nomatch e
theorem b_tuple : CG X (.type "tuple") cTuple := ⟨_, call_tuple_of, by
  rintro M S H xs _ gd rs φ ⟨d, ys, rfl, e, h⟩ Q hQ
  obtain ⟨x, rfl, r⟩ := rds1 rs
  obtain ⟨a, us, rfl, hs, sq⟩ := r.seq2 e
  rcases sq with q | ⟨q, r'⟩
  · exact ⟨a, us, rfl, .inl ⟨q, fun l hl => hQ _ _ _ (To.new hl) (rd_newT gd hl hs) h⟩⟩
  · exact ⟨a, us, rfl, .inr ⟨q, hQ _ _ H .refl r' h⟩⟩⟩
theorem b_list : CG X (.type "list") cList := ⟨_, call_list_of, by
  rintro M S H xs _ gd rs φ ⟨d, ys, rfl, e, h⟩ Q hQ
  obtain ⟨x, rfl, r⟩ := rds1 rs
  obtain ⟨a, us, rfl, sq, hs⟩ := r.seq e
  exact ⟨a, us, rfl, sq, fun l hl => hQ _ _ _ (To.new hl) (rd_newL gd hl hs) h⟩⟩

/-! ### items -/
def atD (xs : List PD) (i : Int) : Option PD := (ixN xs.length i).bind fun j => xs[j]?
@[simp] def gIx : G2 := fun x y φ => ∃ xs i d, seqD x = some xs ∧ y = di i ∧ atD xs i = some d ∧ φ (.dat d)
theorem dps_at {K : PySem.W.Frag} {H : Hp} {vs : List V} {ds : List PD} {i : Int} {d : PD} (hs : DqAll K H vs ds) (h : atD ds i = some d) : ∃ v, atI vs i = some v ∧ Dq K H v d := by
  unfold atD at h
  unfold atI
  rw [dps_len hs]
  cases q : ixN ds.length i with
  | none => rw [q] at h; cases h
  | some j =>
    rw [q] at h
    exact dps_get' hs h
theorem de_ix {a b : Expr} {wa wb : WE} (ha : DE X a wa) (hb : DE X b wb) (hs : PlainIx b := by exact fun _ _ => rfl) : DE X (.Subscript a b pos) (wOp gIx wa wb) := by
  obtain ⟨ta, pa, ea⟩ := ha
  obtain ⟨tb, pb, eb⟩ := hb
  refine ⟨_, pe_ix (ix_list.or ix_tup) pa pb hs, evOp ?_ ea eb⟩
  rintro M S H x y dx _ gd rx ry φ ⟨xs, i, d, e1, rfl, e2, h⟩ Q hQ
  obtain ⟨p, us, rfl, sq, hs⟩ := rx.seq e1
  obtain ⟨v, hv, r⟩ := dps_at hs e2
  rcases sq with q | q
  · exact .inl ⟨p, us, i, v, rfl, ry.int, q, hv, hQ v (.dat d) H .refl r h⟩
  · exact .inr ⟨p, us, i, v, rfl, ry.int, q, hv, hQ v (.dat d) H .refl r h⟩
end

/-! ### tests -/
structure DW (X : Cx) (e : Expr) (w : WT) : Prop where
  ex : ∃ t, PW X e t ∧ EvT X.K t w
section
variable {X : Cx} {a b c : Expr} {rest : List Expr} {wt wu : WT} {wa wb : WE} {pos : Pos}
theorem DW.dt {e : Expr} (h : DW X e wt) : DT X e wt := by
  obtain ⟨t, p, ev⟩ := h
  exact ⟨t, p.pt, ev⟩
@[simp] def wAnd (t u : WT) : WT := fun ρ φ => t ρ fun c => if c = true then u ρ φ else φ false
@[simp] def wOr (t u : WT) : WT := fun ρ φ => t ρ fun c => if c = true then φ true else u ρ φ
@[simp] def wNot (t : WT) : WT := fun ρ φ => t ρ fun c => φ (!c)
theorem dw_and1 (h : DT X a wt) : DW X (.BoolOp .And [a] pos) wt := by
  obtain ⟨t, p, ev⟩ := h
  exact ⟨t, pw_and1 p, ev⟩
theorem dw_or1 (h : DT X a wt) : DW X (.BoolOp .Or [a] pos) wt := by
  obtain ⟨t, p, ev⟩ := h
  exact ⟨t, pw_or1 p, ev⟩
theorem dw_and (h : DT X a wt) (h2 : DW X (.BoolOp .And (b :: rest) pos) wu) : DW X (.BoolOp .And (a :: b :: rest) pos) (wAnd wt wu) := by
  obtain ⟨t, p, ev⟩ := h
  obtain ⟨u, q, ew⟩ := h2
  refine ⟨_, pw_and p q, ?_⟩
  intro M S σ ρ H gd sv φ h Q hQ
  refine ev M S σ ρ H gd sv _ h _ fun c H1 a1 h1 => ?_
  cases c with
  | true => exact ew M S σ ρ H1 (a1.gd gd) (sv.to gd a1) _ h1 _ fun c H2 a2 h2 => hQ c H2 (a1.trans a2) h2
  | false => exact hQ false H1 a1 h1
theorem dw_or (h : DT X a wt) (h2 : DW X (.BoolOp .Or (b :: rest) pos) wu) : DW X (.BoolOp .Or (a :: b :: rest) pos) (wOr wt wu) := by
  obtain ⟨t, p, ev⟩ := h
  obtain ⟨u, q, ew⟩ := h2
  refine ⟨_, pw_or p q, ?_⟩
  intro M S σ ρ H gd sv φ h Q hQ
  refine ev M S σ ρ H gd sv _ h _ fun c H1 a1 h1 => ?_
  cases c with
  | false => exact ew M S σ ρ H1 (a1.gd gd) (sv.to gd a1) _ h1 _ fun c H2 a2 h2 => hQ c H2 (a1.trans a2) h2
  | true => exact hQ true H1 a1 h1
theorem dt_not (h : DT X a wt) : DT X (.UnaryOp .Not a pos) (wNot wt) := by
  obtain ⟨t, p, ev⟩ := h
  refine ⟨_, pt_not p, ?_⟩
  intro M S σ ρ H gd sv φ h Q hQ
  exact ev M S σ ρ H gd sv _ h _ fun c H1 a1 h1 => hQ _ H1 a1 h1
/-- as values -/
@[simp] def wAndV (wa wb : WE) : WE := fun ρ φ => wa ρ fun x => ∃ c, x = db c ∧ if c = true then wb ρ φ else φ (db false)
@[simp] def wOrV (wa wb : WE) : WE := fun ρ φ => wa ρ fun x => ∃ c, x = db c ∧ if c = true then φ (db true) else wb ρ φ
@[simp] def wNotV (wa : WE) : WE := fun ρ φ => wa ρ fun x => ∃ c, x = db c ∧ φ (db (!c))
theorem de_one {op} (h : DE X a wa) : DE X (.BoolOp op [a] pos) wa := by
  obtain ⟨t, p, ev⟩ := h
  exact ⟨t, pe_one p, ev⟩
theorem de_and (h : DE X a wa) (h2 : DE X (.BoolOp .And (b :: rest) pos) wb) : DE X (.BoolOp .And (a :: b :: rest) pos) (wAndV wa wb) := by
  obtain ⟨t, p, ev⟩ := h
  obtain ⟨u, q, ew⟩ := h2
  refine ⟨_, pe_and p q, ?_⟩
  intro M S σ ρ H gd sv φ h Q hQ
  refine ev M S σ ρ H gd sv _ h _ ?_
  rintro v _ H1 a1 rx ⟨c, rfl, h1⟩
  refine ⟨c, rx.bl, ?_⟩
  cases c with
  | true => exact ew M S σ ρ H1 (a1.gd gd) (sv.to gd a1) _ h1 _ fun v dv H2 a2 r h2 => hQ v dv H2 (a1.trans a2) r h2
  | false => exact hQ _ _ H1 a1 rd_bl h1
theorem de_or (h : DE X a wa) (h2 : DE X (.BoolOp .Or (b :: rest) pos) wb) : DE X (.BoolOp .Or (a :: b :: rest) pos) (wOrV wa wb) := by
  obtain ⟨t, p, ev⟩ := h
  obtain ⟨u, q, ew⟩ := h2
  refine ⟨_, pe_or p q, ?_⟩
  intro M S σ ρ H gd sv φ h Q hQ
  refine ev M S σ ρ H gd sv _ h _ ?_
  rintro v _ H1 a1 rx ⟨c, rfl, h1⟩
  refine ⟨c, rx.bl, ?_⟩
  cases c with
  | false => exact ew M S σ ρ H1 (a1.gd gd) (sv.to gd a1) _ h1 _ fun v dv H2 a2 r h2 => hQ v dv H2 (a1.trans a2) r h2
  | true => exact hQ _ _ H1 a1 rd_bl h1
theorem de_not (h : DE X a wa) : DE X (.UnaryOp .Not a pos) (wNotV wa) := by
  obtain ⟨t, p, ev⟩ := h
  refine ⟨_, pe_not p, ?_⟩
  intro M S σ ρ H gd sv φ h Q hQ
  refine ev M S σ ρ H gd sv _ h _ ?_
  rintro v _ H1 a1 rx ⟨c, rfl, h1⟩
  exact ⟨c, rx.bl, hQ _ _ H1 a1 rd_bl h1⟩
@[simp] def wIf (t : WT) (wa wb : WE) : WE := fun ρ φ => t ρ fun c => if c = true then wa ρ φ else wb ρ φ
theorem de_if (hc : DT X c wt) (ha : DE X a wa) (hb : DE X b wb) : DE X (.IfExp c a b pos) (wIf wt wa wb) := by
  obtain ⟨t, p, ev⟩ := hc
  obtain ⟨ta, pa, ea⟩ := ha
  obtain ⟨tb, pb, eb⟩ := hb
  refine ⟨_, pe_ifExp p pa pb, ?_⟩
  intro M S σ ρ H gd sv φ h Q hQ
  refine ev M S σ ρ H gd sv _ h _ fun c H1 a1 h1 => ?_
  cases c with
  | true => exact ea M S σ ρ H1 (a1.gd gd) (sv.to gd a1) _ h1 _ fun v dv H2 a2 r h2 => hQ v dv H2 (a1.trans a2) r h2
  | false => exact eb M S σ ρ H1 (a1.gd gd) (sv.to gd a1) _ h1 _ fun v dv H2 a2 r h2 => hQ v dv H2 (a1.trans a2) r h2
end

/-! ### calls of the text's own defs -/
section
variable {X : Cx} {k n : Nat} {f : Addr} {fd : FuncData} {ps : List Str} {fs : FS} {x : Str} {p pos : Pos} {e : Expr} {es : List Expr} {wa : WA}
@[simp] def wCall (n : Nat) (fs : FS) (wa : WA) : WE := fun ρ φ => wa ρ fun ds => ds.length = n ∧ fs ds φ
theorem evCall {K : PySem.W.Frag} {t : TA} {E : XK} (ea : EvA K t wa) : EvE K (tCall (spD K n fs) [] E t) (wCall n fs wa) := by
  intro M S σ ρ H gd sv φ h Q hQ
  refine ea M S σ ρ H gd sv _ h _ ?_
  rintro vs ds H1 a1 rs ⟨hl, h1⟩
  show spD K n fs (vs ++ []) H1 Q E
  rw [List.append_nil]
  exact ⟨by rw [rs.len, hl], M, S, ds, φ, a1.gd gd, rs, h1, fun v dv H2 a2 r h2 => hQ v dv H2 (a1.trans a2) r h2⟩
theorem de_call (F : FnG X.prog X.w X.K X.mg X.base CX0 k f fd ps (spD X.K n fs)) (grd : X.A.guards = some []) (room : Room k X.A) (hg : Gl X x) (hm : X.mg x = some (.ref f)) (kp : PySem.W.keepIn X.K (.ref f) = true) (hb : Binds X.K fd ps [])
    (ha : DA X (e :: es) wa) (hdb : (x == ("__debug__" : Str)) = false := by decide)
    (he : starEach (e :: es) X.env = (false, eval e X.env) :: starEach es X.env := by rfl) (hpl : (backTo pos (starEach es X.env)).any (·.1) = false := by rfl) :
    DE X (.Call (.Name x p) (e :: es) [] pos) (wCall n fs wa) := by
  obtain ⟨t, pt, ev⟩ := ha
  exact ⟨_, callG (E := E0) F grd room hg hm kp hb (fun _ _ _ _ _ _ _ h => h.elim) pt hdb he hpl, evCall ev⟩
end
end Vf

set_option Elab.async false
set_option linter.all false
set_option maxRecDepth 100000
set_option maxHeartbeats 4000000
/-! Vf4: statements, loops, comprehensions by data -/
namespace Vf
open PySem PySem.Spec PyProof.Rows L2

/-- readings made of what they do by data -/
def tOf (K : PySem.W.Frag) (w : WE) : TE := fun σ H Q => ∃ (M : List Addr) (S : So) (ρ : DSt) (φ : DV → Prop), Gd M S H ∧ SV K M S H σ ρ ∧ w ρ φ ∧ ∀ v dv H', To S H H' → RD K M S H' v dv → φ dv → Q v H'
def ttOf (K : PySem.W.Frag) (w : WT) : TT := fun σ H Q => ∃ (M : List Addr) (S : So) (ρ : DSt) (φ : Bool → Prop), Gd M S H ∧ SV K M S H σ ρ ∧ w ρ φ ∧ ∀ b H', To S H H' → φ b → Q b H'
theorem DE.pe {X : Cx} {e : Expr} {w : WE} (h : DE X e w) : PE X e (tOf X.K w) := by
  obtain ⟨t, p, ev⟩ := h
  refine ⟨fun pins s σ H Q I hq => ?_⟩
  obtain ⟨M, S, ρ, φ, gd, sv, hw, hQ⟩ := hq
  exact p.run pins s σ H Q I (ev M S σ ρ H gd sv φ hw Q hQ)
theorem DT.pt {X : Cx} {e : Expr} {w : WT} (h : DT X e w) : PT X e (ttOf X.K w) := by
  obtain ⟨t, p, ev⟩ := h
  refine ⟨fun pins s σ H Q I hq => ?_⟩
  obtain ⟨M, S, ρ, φ, gd, sv, hw, hQ⟩ := hq
  exact p.run pins s σ H Q I (ev M S σ ρ H gd sv φ hw Q hQ)
theorem tOf_ev {K : PySem.W.Frag} {w : WE} : EvE K (tOf K w) w := fun M S σ ρ H gd sv φ h Q hQ => ⟨M, S, ρ, φ, gd, sv, h, hQ⟩
theorem ttOf_ev {K : PySem.W.Frag} {w : WT} : EvT K (ttOf K w) w := fun M S σ ρ H gd sv φ h Q hQ => ⟨M, S, ρ, φ, gd, sv, h, hQ⟩

/-! ### targets -/
/-- slots of is are set to data -/
inductive Chg (K : PySem.W.Frag) (M : List Addr) (S : So) (H : Hp) (is : List Nat) (σ : L2.St) (ρ : DSt) : L2.St → DSt → Prop
  | refl : Chg K M S H is σ ρ σ ρ
  | step {σ1 : L2.St} {ρ1 : DSt} {i : Nat} {v : V} {d : PD} : Chg K M S H is σ ρ σ1 ρ1 → i ∈ is → RD K M S H v (.dat d) → Chg K M S H is σ ρ (σ1.set i (some v)) (ρ1.set i (some (.dat d)))
abbrev WG := PD → DSt → (DSt → Prop) → Prop
def EvG (K : PySem.W.Frag) (tg : TG) (is : List Nat) (g : WG) : Prop := ∀ (M : List Addr) (S : So) (H : Hp) (σ : L2.St) (ρ : DSt) (v : V) (d : PD), RD K M S H v (.dat d) → ∀ ψ, g d ρ ψ →
  ∀ Q : L2.St → Hp → Prop, (∀ σ' ρ', Chg K M S H is σ ρ σ' ρ' → ψ ρ' → Q σ' H) → tg v σ H Q
def tgOf (K : PySem.W.Frag) (is : List Nat) (g : WG) : TG := fun v σ H Q => ∃ (M : List Addr) (S : So) (ρ : DSt) (d : PD) (ψ : DSt → Prop), RD K M S H v (.dat d) ∧ g d ρ ψ ∧ ∀ σ' ρ', Chg K M S H is σ ρ σ' ρ' → ψ ρ' → Q σ' H
structure DG (X : Cx) (tg : Expr) (is : List Nat) (g : WG) : Prop where
  ex : ∃ t, PG X tg t ∧ EvG X.K t is g
theorem DG.pg {X : Cx} {tg : Expr} {is : List Nat} {g : WG} (h : DG X tg is g) : PG X tg (tgOf X.K is g) := by
  obtain ⟨t, p, ev⟩ := h
  refine ⟨fun pins s σ H v u Q I r hq => ?_⟩
  obtain ⟨M, S, ρ, d, ψ, rv, hg, hQ⟩ := hq
  exact p.run pins s σ H v u Q I r (ev M S H σ ρ v d rv ψ hg Q hQ)
theorem tgOf_ev {K : PySem.W.Frag} {is : List Nat} {g : WG} : EvG K (tgOf K is g) is g := fun M S H σ ρ v d r ψ h Q hQ => ⟨M, S, ρ, d, ψ, r, h, hQ⟩
theorem Chg.mono {K : PySem.W.Frag} {M : List Addr} {S : So} {H : Hp} {is js : List Nat} {σ σ' : L2.St} {ρ ρ' : DSt} (h : ∀ i ∈ is, i ∈ js) (c : Chg K M S H is σ ρ σ' ρ') : Chg K M S H js σ ρ σ' ρ' := by
  induction c with
  | refl => exact .refl
  | step _ hi r ih => exact ih.step (h _ hi) r
theorem Chg.trans {K : PySem.W.Frag} {M : List Addr} {S : So} {H : Hp} {is : List Nat} {σ σ1 σ2 : L2.St} {ρ ρ1 ρ2 : DSt} (a : Chg K M S H is σ ρ σ1 ρ1) (b : Chg K M S H is σ1 ρ1 σ2 ρ2) : Chg K M S H is σ ρ σ2 ρ2 := by
  induction b with
  | refl => exact a
  | step _ hi r ih => exact ih.step hi r
theorem Chg.sv {K : PySem.W.Frag} {M : List Addr} {S : So} {H : Hp} {is : List Nat} {σ σ' : L2.St} {ρ ρ' : DSt} (c : Chg K M S H is σ ρ σ' ρ') (h : SV K M S H σ ρ) : SV K M S H σ' ρ' := by
  induction c with
  | refl => exact h
  | step _ _ r ih => exact ih.set _ r
theorem Chg.sd {K : PySem.W.Frag} {A O : List Addr} {S : So} {Fr H : Hp} {is : List Nat} {σ σ' : L2.St} {ρ ρ' : DSt} (c : Chg K (O ++ A) S H is σ ρ σ' ρ') (h : SD K A S Fr O σ ρ H) : SD K A S Fr O σ' ρ' H := by
  induction c with
  | refl => exact h
  | step _ _ r ih => exact ih.set _ r
/-- slots forgotten -/
@[simp] def wipeD (ρ : DSt) : List Nat → DSt
  | [] => ρ
  | i :: is => (wipeD ρ is).set i none
theorem SV.wipe {K : PySem.W.Frag} {M : List Addr} {S : So} {H : Hp} {σ : L2.St} {ρ : DSt} (h : SV K M S H σ ρ) : ∀ is : List Nat, SV K M S H (L2.wipe σ is) (wipeD ρ is)
  | [] => h
  | i :: is => (h.wipe is).forget i
theorem set_get_none {σ : L2.St} {i j : Nat} {x : Option V} : (σ.set i x).set i none = σ.set i none := by
  rw [List.set_set]
theorem wipe_set {i : Nat} {x : Option V} : ∀ {is : List Nat} (σ : L2.St), i ∈ is → L2.wipe (σ.set i x) is = L2.wipe σ is
  | j :: is, σ, h => by
    unfold L2.wipe
    by_cases e : i ∈ is
    · rw [wipe_set σ e]
    · have ij : i = j := by
        rcases List.mem_cons.mp h with q | q
        · exact q
        · exact absurd q e
      subst ij
      have key : ∀ (js : List Nat), i ∉ js → L2.wipe (σ.set i x) js = (L2.wipe σ js).set i x := fun js => by
        induction js with
        | nil => intro _; rfl
        | cons k ks ih =>
          intro hn
          unfold L2.wipe
          rw [ih (fun z => hn (List.mem_cons_of_mem _ z))]
          have hk : i ≠ k := fun z => hn (by rw [z]; exact List.mem_cons_self)
          rw [List.set_comm _ _ hk]
      rw [key is e, List.set_set]
theorem wipe_wipe {is : List Nat} {σ : L2.St} : L2.wipe (L2.wipe σ is) is = L2.wipe σ is := by
  have key : ∀ (js : List Nat), (∀ j ∈ js, j ∈ is) → L2.wipe (L2.wipe σ js) is = L2.wipe σ is := fun js => by
    induction js with
    | nil => intro _; rfl
    | cons k ks ih =>
      intro h
      show L2.wipe ((L2.wipe σ ks).set k none) is = _
      rw [wipe_set _ (h k List.mem_cons_self)]
      exact ih fun j hj => h j (List.mem_cons_of_mem _ hj)
  exact key is fun _ h => h
theorem Chg.wiped {K : PySem.W.Frag} {M : List Addr} {S : So} {H : Hp} {is : List Nat} {σ σ' : L2.St} {ρ ρ' : DSt} (c : Chg K M S H is (L2.wipe σ is) ρ σ' ρ') : L2.wipe σ' is = L2.wipe σ is := by
  induction c with
  | refl => exact wipe_wipe
  | step _ hi _ ih => rw [wipe_set _ hi]; exact ih
@[simp] def gNm (i : Nat) : WG := fun d ρ ψ => ψ (ρ.set i (some (.dat d)))
section
variable {X : Cx} {pos : Pos}
theorem dg_name {i : Nat} {x : Str} (hN : X.N.Nodup) (hi : X.N[i]? = some x := by rfl) (hx : Loc X.env.scope x := by first | exact .inl rfl | exact .inr rfl) (hf : X.fn x = true ∨ X.env.scope.names.lookup x = some .local := by first | exact .inl rfl | exact .inr rfl) : DG X (.Name x pos) [i] (gNm i) :=
  ⟨_, pg_name hN hi hx hf, fun M S H σ ρ v d r ψ h Q hQ => hQ _ _ (Chg.refl.step (List.mem_cons_self) r) h⟩
abbrev WGs := List PD → DSt → (DSt → Prop) → Prop
def EvGs (K : PySem.W.Frag) (tg : TGs) (is : List Nat) (g : WGs) : Prop := ∀ (M : List Addr) (S : So) (H : Hp) (σ : L2.St) (ρ : DSt) (vs : List V) (ds : List PD), DqAll K (msk M H) vs ds → ∀ ψ, g ds ρ ψ →
  ∀ Q : L2.St → Hp → Prop, (∀ σ' ρ', Chg K M S H is σ ρ σ' ρ' → ψ ρ' → Q σ' H) → tg vs σ H Q
structure DGs (X : Cx) (ts : List Expr) (is : List Nat) (g : WGs) : Prop where
  ex : ∃ t, PGs X ts t ∧ EvGs X.K t is g
@[simp] def gsNil : WGs := fun ds ρ ψ => match ds with | [] => ψ ρ | _ :: _ => False
@[simp] def gsCons (g : WG) (gs : WGs) : WGs := fun ds ρ ψ => match ds with | d :: r => g d ρ fun ρ' => gs r ρ' ψ | [] => False
theorem dgs_nil : DGs X [] [] gsNil := ⟨_, pgs_nil, by
  intro M S H σ ρ vs ds hs ψ h Q hQ
  cases hs with
  | nil => exact ⟨rfl, hQ _ _ .refl h⟩
  | cons _ _ => exact h.elim⟩
theorem dgs_cons {e : Expr} {es : List Expr} {is js : List Nat} {g : WG} {gs : WGs} (h1 : DG X e is g) (h2 : DGs X es js gs)
    (hs : (assignEach (e :: es) X.env).map (·.2) = assign e X.env :: (assignEach es X.env).map (·.2) := by rfl) : DGs X (e :: es) (is ++ js) (gsCons g gs) := by
  obtain ⟨t, p, ev⟩ := h1
  obtain ⟨u, q, ew⟩ := h2
  refine ⟨_, pgs_cons p q hs, ?_⟩
  intro M S H σ ρ vs ds hd ψ h Q hQ
  cases hd with
  | nil => exact h.elim
  | cons r1 r2 =>
    refine ⟨_, _, rfl, ev M S H σ ρ _ _ r1 _ h _ fun σ1 ρ1 c1 h1 => ?_⟩
    exact ew M S H σ1 ρ1 _ _ r2 _ h1 _ fun σ2 ρ2 c2 h2 => hQ σ2 ρ2 ((c1.mono fun i hi => List.mem_append_left _ hi).trans (c2.mono fun i hi => List.mem_append_right _ hi)) h2
@[simp] def gTp (n : Nat) (gs : WGs) : WG := fun d ρ ψ => ∃ ds, d = .tuple ds ∧ ds.length = n ∧ gs ds ρ ψ
theorem dg_tup {es : List Expr} {is : List Nat} {gs : WGs} {k : Nat} {n : Nat} (hc : X.calm = true) (h : DGs X es is gs)
    (hn : (assignEach es X.env).length = n := by rfl) (hst : (assignEach es X.env).findIdx? (·.1) = none := by rfl) : DG X (.Tuple es k pos) is (gTp n gs) := by
  obtain ⟨t, p, ev⟩ := h
  refine ⟨_, pg_tup hc p hn hst, ?_⟩
  rintro M S H σ ρ v _ r ψ ⟨ds, rfl, hl, h⟩ Q hQ
  obtain ⟨a, xs, rfl, sq, hs⟩ := dp_tup_inv r
  exact ⟨a, xs, rfl, sqt_le msk_le sq, by rw [dps_len hs, hl], ev M S H σ ρ xs ds hs ψ h Q hQ⟩
end

/-! ### small statements -/
theorem SD.weak {K : PySem.W.Frag} {A O : List Addr} {S : So} {Fr Fr1 H : Hp} {σ : L2.St} {ρ : DSt} (h : SD K A S Fr1 O σ ρ H) (l : Le Fr Fr1) (hf : ∀ a ∈ Fo S, Fr a = none) : SD K A S Fr O σ ρ H where
  gd := h.gd
  fa := h.fa
  fr := l.trans h.fr
  frF := hf
  own := fun p hp => ⟨(h.own p hp).1, by
    cases q : Fr p with
    | none => rfl
    | some o =>
      have := l p o q
      rw [(h.own p hp).2] at this
      cases this⟩
  sv := h.sv
  apart := h.apart
section
variable {X : Cx} {e : Expr} {we : WE} {pos : Pos}
@[simp] def wAsg (we : WE) (i : Nat) : WS := fun D ρ => we ρ fun dv => ∃ d, dv = .dat d ∧ D.nx (ρ.set i (some (.dat d)))
theorem ds_set {i : Nat} {x : Str} {pos' : Pos} (hN : X.N.Nodup) (he : DE X e we) (hi : X.N[i]? = some x := by rfl) (hx : Loc X.env.scope x := by first | exact .inl rfl | exact .inr rfl) (hs : swapsWith e (some (.Name x pos')) pos.line X.env = pure false := by rfl)
    (hf : X.fn x = true ∨ X.env.scope.names.lookup x = some .local := by first | exact .inl rfl | exact .inr rfl) : DS X (.Assign [.Name x pos'] e pos) (wAsg we i) := by
  obtain ⟨t, p, ev⟩ := he
  refine ⟨_, ps_set hN hi hx p hs hf, ?_⟩
  intro A S Fr O σ ρ H sd D D' L h
  refine ev _ S σ ρ H sd.gd sd.sv _ h _ ?_
  rintro v _ H1 a1 r ⟨d, rfl, h1⟩
  exact L.nx O _ _ H1 ((sd.to a1).set i r) h1
/-- any target -/
@[simp] def wAsgG (we : WE) (g : WG) : WS := fun D ρ => we ρ fun dv => ∃ d, dv = .dat d ∧ g d ρ D.nx
theorem ds_asg {tg : Expr} {is : List Nat} {g : WG} (he : DE X e we) (hg : DG X tg is g) (hs : swapsWithSole [tg] e pos.line X.env = pure false := by rfl) (hw : swappedStores [tg] e X.env = pure none := by rfl) (h1 : (assignEach [tg] X.env).map (·.2) = [assign tg X.env] := by rfl) : DS X (.Assign [tg] e pos) (wAsgG we g) := by
  obtain ⟨t, p, ev⟩ := he
  obtain ⟨u, q, eg⟩ := hg
  refine ⟨_, ps_asg p q hs hw h1, ?_⟩
  intro A S Fr O σ ρ H sd D D' L h
  refine ev _ S σ ρ H sd.gd sd.sv _ h _ ?_
  rintro v _ H1 a1 r ⟨d, rfl, h1⟩
  exact eg _ S H1 σ ρ v d r _ h1 _ fun σ' ρ' c h2 => L.nx O σ' ρ' H1 (c.sd (sd.to a1)) h2
@[simp] def wPar (i j : Nat) (wa : WA) : WS := fun D ρ => wa ρ fun ds => ∃ d e, ds = [.dat d, .dat e] ∧ D.nx ((ρ.set i (some (.dat d))).set j (some (.dat e)))
theorem ds_par {i j : Nat} {x y : Str} {a b : Expr} {wa : WA} {px py pt : Pos} {kt k2 pt2} (hN : X.N.Nodup) (ha : DA X [a, b] wa) (hc : X.calm = true := by rfl) (hi : X.N[i]? = some x := by rfl) (hj : X.N[j]? = some y := by rfl) (hij : i ≠ j := by decide)
    (hx : X.env.scope.names.lookup x = some .local := by rfl) (hy : X.env.scope.names.lookup y = some .local := by rfl)
    (hw : swappedStores [.Tuple [.Name x px, .Name y py] kt pt] (.Tuple [a, b] k2 pt2) X.env = pure (some [x, y]) := by rfl)
    (hs : swapsWithSole [.Tuple [.Name x px, .Name y py] kt pt] (.Tuple [a, b] k2 pt2) pos.line X.env = pure false := by rfl) :
    DS X (.Assign [.Tuple [.Name x px, .Name y py] kt pt] (.Tuple [a, b] k2 pt2) pos) (wPar i j wa) := by
  obtain ⟨t, p, ev⟩ := ha
  refine ⟨_, ps_par hc hN hi hj hij hx hy p hw hs, ?_⟩
  intro A S Fr O σ ρ H sd D D' L h
  refine ev _ S σ ρ H sd.gd sd.sv _ h _ ?_
  rintro vs _ H1 a1 rs ⟨d, e, rfl, h1⟩
  obtain ⟨v, w, rfl, r1, r2⟩ := rds2 rs
  exact ⟨v, w, rfl, L.nx O _ _ H1 (((sd.to a1).set i r1).set j r2) h1⟩
@[simp] def wDrop (we : WE) : WS := fun D ρ => we ρ fun _ => D.nx ρ
theorem ds_expr (he : DE X e we) (hs : swapsWith e none pos.line X.env = pure false := by rfl) : DS X (.Expr e pos) (wDrop we) := by
  obtain ⟨t, p, ev⟩ := he
  refine ⟨_, ps_expr p hs, ?_⟩
  intro A S Fr O σ ρ H sd D D' L h
  exact ev _ S σ ρ H sd.gd sd.sv _ h _ fun v dv H1 a1 r h1 => L.nx O σ ρ H1 (sd.to a1) h1
@[simp] def wRet (we : WE) : WS := fun D ρ => we ρ fun dv => ∃ d, dv = .dat d ∧ D.rt (.dat d)
theorem SD.rt {K : PySem.W.Frag} {A O : List Addr} {S : So} {Fr H : Hp} {σ : L2.St} {ρ : DSt} {D : DEnds} {D' : Ends} {v : V} {d : PD} (sd : SD K A S Fr O σ ρ H) (L : Leads K A S Fr D D') (r : RD K (O ++ A) S H v (.dat d)) (h : D.rt (.dat d)) : D'.rt v H :=
  L.rt v (.dat d) H (fun a ha => sd.gd.dom a (sub_app a ha)) sd.fr sd.gd.jo (RD.wide sub_app r) h
theorem ds_ret (he : DE X e we) : DS X (.Return (some e) pos) (wRet we) := by
  obtain ⟨t, p, ev⟩ := he
  refine ⟨_, ps_ret p, ?_⟩
  intro A S Fr O σ ρ H sd D D' L h
  refine ev _ S σ ρ H sd.gd sd.sv _ h _ ?_
  rintro v _ H1 a1 r ⟨d, rfl, h1⟩
  exact (sd.to a1).rt L r h1
@[simp] def wRetN : WS := fun D _ => D.rt (.dat .none)
theorem ds_retN : DS X (.Return none pos) wRetN := ⟨_, ps_retN, fun A S Fr O σ ρ H sd D D' L h => sd.rt (v := .non) L rd_non h⟩
@[simp] def wNext : WS := fun D ρ => D.nx ρ
@[simp] def wSeq (t u : WS) : WS := fun D ρ => t { D with nx := u D } ρ
theorem dss_nil : DSs X [] wNext := ⟨_, pss_nil, fun A S Fr O σ ρ H sd D D' L h => L.nx O σ ρ H sd h⟩
theorem ds_pass : DS X (.Pass pos) wNext := ⟨_, ps_pass, fun A S Fr O σ ρ H sd D D' L h => L.nx O σ ρ H sd h⟩
@[simp] def wBreak : WS := fun D ρ => D.bk ρ
@[simp] def wCont : WS := fun D ρ => D.ct ρ
theorem ds_break : DS X (.Break pos) wBreak := ⟨_, ps_break, fun A S Fr O σ ρ H sd D D' L h => L.bk O σ ρ H sd h⟩
theorem ds_continue : DS X (.Continue pos) wCont := ⟨_, ps_continue, fun A S Fr O σ ρ H sd D D' L h => L.ct O σ ρ H sd h⟩
theorem dss_cons {st : Stmt} {rest : List Stmt} {t u : WS} (h1 : DS X st t) (h2 : DSs X rest u) : DSs X (st :: rest) (wSeq t u) := by
  obtain ⟨a, p, ev⟩ := h1
  obtain ⟨b, q, ew⟩ := h2
  refine ⟨_, pss_cons p q, ?_⟩
  intro A S Fr O σ ρ H sd D D' L h
  exact ev A S Fr O σ ρ H sd { D with nx := u D } { D' with nx := b D' } ⟨fun O1 σ1 ρ1 H1 sd1 h1 => ew A S Fr O1 σ1 ρ1 H1 sd1 D D' L h1, L.rt, L.bk, L.ct⟩ h
theorem dss_one {st : Stmt} {t : WS} (h : DS X st t) : DSs X [st] t := by
  obtain ⟨a, p, ev⟩ := h
  exact ⟨_, pss_one p, ev⟩
@[simp] def wIfS (wt : WT) (t u : WS) : WS := fun D ρ => wt ρ fun b => if b = true then t D ρ else u D ρ
theorem ds_if {c : Expr} {a b : List Stmt} {wt : WT} {t u : WS} (hc : DT X c wt) (ha : DSs X a t) (hb : DSs X b u) : DS X (.If c a b pos) (wIfS wt t u) := by
  obtain ⟨tc, p, ev⟩ := hc
  obtain ⟨ta, pa, ea⟩ := ha
  obtain ⟨tb, pb, eb⟩ := hb
  refine ⟨_, ps_if p pa pb, ?_⟩
  intro A S Fr O σ ρ H sd D D' L h
  refine ev _ S σ ρ H sd.gd sd.sv _ h _ fun b H1 a1 h1 => ?_
  cases b with
  | true => exact ea A S Fr O σ ρ H1 (sd.to a1) D D' L h1
  | false => exact eb A S Fr O σ ρ H1 (sd.to a1) D D' L h1
end

/-! ### what is walked -/
def Kp (M : List Addr) (H H' : Hp) : Prop := ∀ a o, a ∉ M → H a = some o → H' a = some o
structure ItD (K : PySem.W.Frag) (M : List Addr) (S : So) (J : It) (xs : List PD) (H1 : Hp) : Prop where
  go : ∀ (H' : Hp), Kp M H1 H' → ∀ (i : Nat) d, xs[i]? = some d → J.go i H'
  yld : ∀ (H' : Hp), Kp M H1 H' → ∀ (i : Nat) d, xs[i]? = some d → ∀ x H2, J.yld i H' x H2 → Le H' H2 ∧ ∀ N : List Addr, (∀ a ∈ N, H' a ≠ none) → (∀ a ∈ N, a ∈ M ∨ H1 a = none) → RD K N S H2 x (.dat d)
  stop : ∀ (H' : Hp), Kp M H1 H' → ∀ i : Nat, xs.length ≤ i → J.stop i H'
abbrev WI := DSt → (List PD → Prop) → Prop
def EvI (K : PySem.W.Frag) (ti : TI) (wi : WI) : Prop := ∀ (M : List Addr) (S : So) (σ : L2.St) (ρ : DSt) (H : Hp), Gd M S H → SV K M S H σ ρ → ∀ ψ, wi ρ ψ →
  ∀ R : It → Hp → Prop, (∀ J xs H1, To S H H1 → ψ xs → ItD K M S J xs H1 → R J H1) → ti σ H R
structure DI (X : Cx) (tg iter : Expr) (wi : WI) : Prop where
  ex : ∃ t, PI X tg iter t ∧ EvI X.K t wi
theorem kp_msk {M N : List Addr} {H1 H' : Hp} (k : Kp M H1 H') (h : ∀ a ∈ N, a ∈ M ∨ H1 a = none) : Le (msk M H1) (msk N H') := fun a o q => by
  obtain ⟨n, e⟩ := of_msk q
  have z : a ∉ N := fun hN => by
    rcases h a hN with y | y
    · exact n y
    · rw [y] at e; cases e
  rw [msk_out z]
  exact k a o n e
section
variable {X : Cx} {tg : Expr} {e : Expr} {we : WE} {wa : WA} {pos : Pos}
/-- a tuple; a list -/
@[simp] def wiTup (we : WE) : WI := fun ρ ψ => we ρ fun dv => ∃ xs, dv = .dat (.tuple xs) ∧ ψ xs
@[simp] def wiLst (we : WE) : WI := fun ρ ψ => we ρ fun dv => ∃ xs, dv = .dat (.list xs) ∧ ψ xs
theorem di_tup (he : DE X e we) : DI X tg e (wiTup we) := by
  obtain ⟨t, p, ev⟩ := he
  refine ⟨_, pi_tup p, ?_⟩
  intro M S σ ρ H gd sv ψ h R hR
  refine ev M S σ ρ H gd sv _ h _ ?_
  rintro v _ H1 a1 r ⟨xs, rfl, h1⟩
  obtain ⟨a, vs, rfl, sq, hs⟩ := dp_tup_inv r
  have sqAt : ∀ {H' : Hp}, Kp M H1 H' → SqT X.K H' a vs := fun {H'} k => sqt_le (fun b o q => k b o (of_msk q).1 (of_msk q).2) sq
  refine ⟨a, rfl, ⟨vs, sqt_le msk_le sq⟩, hR _ xs H1 a1 h1 ⟨fun H' k i d e => ?_, fun H' k i d e x H2 y => ?_, fun H' k i hi => ?_⟩⟩
  · obtain ⟨x, hx, _⟩ := dps_get' hs e
    exact ⟨vs, x, sqAt k, hx⟩
  · obtain ⟨rfl, y⟩ := y
    have hx := y vs (sqAt k)
    obtain ⟨d', e', r'⟩ := dps_get hs hx
    rw [e] at e'
    cases e'
    exact ⟨Le.refl _, fun N _ hN => dp_le (kp_msk k hN) r'⟩
  · exact ⟨vs, sqAt k, by rw [dps_len hs]; exact hi⟩
theorem di_lst (he : DE X e we) : DI X tg e (wiLst we) := by
  obtain ⟨t, p, ev⟩ := he
  refine ⟨_, pi_list p, ?_⟩
  intro M S σ ρ H gd sv ψ h R hR
  refine ev M S σ ρ H gd sv _ h _ ?_
  rintro v _ H1 a1 r ⟨xs, rfl, h1⟩
  obtain ⟨a, vs, rfl, sq, hs⟩ := dp_lst_inv r
  have sqAt : ∀ {H' : Hp}, Kp M H1 H' → SqL X.K H' a vs := fun {H'} k => SqL.of (k a _ (of_msk sq).1 (of_msk sq).2)
  refine ⟨a, rfl, ⟨vs, SqL.of (msk_le _ _ sq)⟩, hR _ xs H1 a1 h1 ⟨fun H' k i d e => ?_, fun H' k i d e x H2 y => ?_, fun H' k i hi => ?_⟩⟩
  · obtain ⟨x, hx, _⟩ := dps_get' hs e
    exact ⟨vs, x, sqAt k, hx⟩
  · obtain ⟨rfl, y⟩ := y
    have hx := y vs (sqAt k)
    obtain ⟨d', e', r'⟩ := dps_get hs hx
    rw [e] at e'
    cases e'
    exact ⟨Le.refl _, fun N _ hN => dp_le (kp_msk k hN) r'⟩
  · exact ⟨vs, sqAt k, by rw [dps_len hs]; exact hi⟩
/-- range(n), range(a, b) -/
def rngD (lo : Int) (n : Nat) : List PD := (List.range n).map fun i => .int (lo + (i : Nat))
@[simp] def wiR1 (wa : WA) : WI := fun ρ ψ => wa ρ fun ds => ∃ j : Int, ds = [di j] ∧ -(2 ^ 62) ≤ j ∧ j < 2 ^ 62 ∧ ψ (rngD 0 j.toNat)
@[simp] def wiR2 (wa : WA) : WI := fun ρ ψ => wa ρ fun ds => ∃ i j : Int, ds = [di i, di j] ∧ (-(2 ^ 62) ≤ i ∧ i < 2 ^ 62 ∧ -(2 ^ 62) ≤ j ∧ j < 2 ^ 62) ∧ ψ (rngD i (j - i).toNat)
theorem itD_rng {K : PySem.W.Frag} {M : List Addr} {S : So} {lo : Int} {n : Nat} {H1 : Hp} : ItD K M S (Itr lo n) (rngD lo n) H1 := by
  have len : (rngD lo n).length = n := by simp [rngD]
  refine ⟨fun H' k i d e => ?_, fun H' k i d e x H2 y => ?_, fun H' k i hi => ?_⟩
  · have := (List.getElem?_eq_some_iff.mp e).1
    rw [len] at this
    exact this
  · obtain ⟨e1, e2⟩ := y
    subst e1 e2
    have hi := (List.getElem?_eq_some_iff.mp e).1
    rw [len] at hi
    have ed : d = .int (lo + (i : Nat)) := by
      unfold rngD at e
      rw [List.getElem?_map, List.getElem?_range hi] at e
      cases e
      rfl
    subst ed
    exact ⟨Le.refl _, fun N _ _ => rd_int⟩
  · rw [len] at hi
    exact hi
theorem di_rng1 {a : Expr} {p : Pos} (hg : Gl X "range") (hm : X.mg "range" = none) (ha : DA X [a] wa) (hs : starEach [a] X.env = [(false, eval a X.env)] := by rfl) : DI X tg (.Call (.Name "range" p) [a] [] pos) (wiR1 wa) := by
  obtain ⟨t, pt, ev⟩ := ha
  refine ⟨_, pi_range1 hg hm pt hs, ?_⟩
  intro M S σ ρ H gd sv ψ h R hR
  refine ev M S σ ρ H gd sv _ h _ ?_
  rintro vs _ H1 a1 rs ⟨j, rfl, h1, h2, h3⟩
  obtain ⟨x, rfl, r⟩ := rds1 rs
  exact ⟨j, by rw [r.int], h1, h2, hR _ _ H1 a1 h3 itD_rng⟩
theorem di_rng2 {a b : Expr} {p : Pos} (hg : Gl X "range") (hm : X.mg "range" = none) (ha : DA X [a, b] wa) (hs : starEach [a, b] X.env = [(false, eval a X.env), (false, eval b X.env)] := by rfl) (hs2 : starEach [b] X.env = [(false, eval b X.env)] := by rfl) : DI X tg (.Call (.Name "range" p) [a, b] [] pos) (wiR2 wa) := by
  obtain ⟨t, pt, ev⟩ := ha
  refine ⟨_, pi_range2 hg hm pt hs hs2, ?_⟩
  intro M S σ ρ H gd sv ψ h R hR
  refine ev M S σ ρ H gd sv _ h _ ?_
  rintro vs _ H1 a1 rs ⟨i, j, rfl, h1, h3⟩
  obtain ⟨x, y, rfl, r1, r2⟩ := rds2 rs
  exact ⟨i, j, by rw [r1.int, r2.int], h1, hR _ _ H1 a1 h3 itD_rng⟩

/-! ### for -/
def wFor (wi : WI) (g : WG) (wb : WS) : WS := fun D ρ => wi ρ fun xs => ∃ Inv : Nat → DSt → Prop, Inv 0 ρ ∧
  (∀ (i : Nat) d ρ', xs[i]? = some d → Inv i ρ' → g d ρ' fun ρ2 => wb { D with nx := Inv (i + 1), ct := Inv (i + 1), bk := D.nx } ρ2) ∧ ∀ ρ', Inv xs.length ρ' → D.nx ρ'
theorem ds_for {iter : Expr} {body : List Stmt} {wi : WI} {is : List Nat} {g : WG} {wb : WS} (hp : PassesOwn (model X.prog X.w) X.A X.env X.xe) (hi : DI X tg iter wi) (hg : DG X tg is g) (hb : DSs X body wb) (hc : X.calm = true := by rfl)
    (hs : ∀ x, foldedSetIterable iter X.env x = pure x := by intro _; rfl) : DS X (.For tg iter body [] pos) (wFor wi g wb) := by
  obtain ⟨ti, pi, ei⟩ := hi
  obtain ⟨tg', pg, eg⟩ := hg
  obtain ⟨tb, pb, eb⟩ := hb
  refine ⟨_, ps_for hp hc pi pg pb hs, ?_⟩
  intro A S Fr O σ ρ H sd D D' L h
  refine ei _ S σ ρ H sd.gd sd.sv _ h _ ?_
  rintro J xs H1 a1 ⟨Inv, h0, hstep, hend⟩ it
  have sd1 := sd.to a1
  -- what stays as it is through the loop
  let Fr1 : Hp := fun a => if a ∈ Fo S ∨ a ∈ O then none else H1 a
  have fr1_of : ∀ {a o}, Fr1 a = some o → (a ∉ Fo S ∧ a ∉ O) ∧ H1 a = some o := fun {a o} q => by
    by_cases z : a ∈ Fo S ∨ a ∈ O
    · exact absurd ((if_pos z).symm.trans q) (fun y => nomatch y)
    · exact ⟨⟨fun y => z (.inl y), fun y => z (.inr y)⟩, (if_neg z).symm.trans q⟩
  have to_fr1 : ∀ {a o}, a ∉ Fo S → a ∉ O → H1 a = some o → Fr1 a = some o := fun {a o} n1 n2 q => (if_neg (fun z => z.elim n1 n2)).trans q
  have le1 : Le Fr Fr1 := fun a o q => to_fr1 (fun z => by rw [sd.frF a z] at q; cases q) (fun z => by rw [(sd.own a z).2] at q; cases q) (sd1.fr a o q)
  have start : SD X.K A S Fr1 O σ ρ H1 := { gd := sd1.gd, fa := sd1.fa, fr := fun a o q => (fr1_of q).2, frF := fun a z => if_pos (.inl z), own := fun p hp => ⟨(sd.own p hp).1, if_pos (.inr hp)⟩, sv := sd1.sv, apart := sd1.apart }
  have back : ∀ {O' σ' ρ' H'}, SD X.K A S Fr1 O' σ' ρ' H' → SD X.K A S Fr O' σ' ρ' H' := fun s => s.weak le1 sd.frF
  have kp : ∀ {O' σ' ρ' H'}, SD X.K A S Fr1 O' σ' ρ' H' → Kp (O ++ A) H1 H' := fun {O' σ' ρ' H'} s a o n q => s.fr a o (to_fr1 (fun z => n (sub_app a (sd.fa a z))) (fun z => n (List.mem_append_left _ z)) q)
  have inN : ∀ {O' σ' ρ' H'}, SD X.K A S Fr1 O' σ' ρ' H' → ∀ a ∈ O' ++ A, a ∈ O ++ A ∨ H1 a = none := fun {O' σ' ρ' H'} s a ha => by
    rcases List.mem_append.mp ha with z | z
    · by_cases y : a ∈ O ++ A
      · exact .inl y
      · refine .inr ?_
        cases q : H1 a with
        | none => rfl
        | some o =>
          have := to_fr1 (fun w => y (sub_app a (sd.fa a w))) (fun w => y (List.mem_append_left _ w)) q
          rw [(s.own a z).2] at this
          cases this
    · exact .inl (sub_app a z)
  refine ⟨fun i m σ' H' => m = xs.length - i ∧ i ≤ xs.length ∧ ∃ O' ρ', SD X.K A S Fr1 O' σ' ρ' H' ∧ Inv i ρ', ⟨xs.length, by simp, Nat.zero_le _, O, ρ, start, h0⟩, ?_⟩
  rintro i m σ' H' ⟨rfl, hi, O', ρ', s, hinv⟩
  by_cases hlt : i < xs.length
  · have hd : xs[i]? = some xs[i] := by simp [hlt]
    refine .inr ⟨it.go H' (kp s) i _ hd, fun σ2 H2 => ∃ O2 ρ2, SD X.K A S Fr1 O2 σ2 ρ2 H2 ∧ Inv (i + 1) ρ2, fun σ2 H2 hN => ⟨xs.length - (i + 1), by omega, rfl, hlt, hN⟩, fun x H2 y => ?_⟩
    obtain ⟨l2, r2⟩ := it.yld H' (kp s) i _ hd x H2 y
    have s2 := s.to (To.le l2)
    refine eg _ S H2 σ' ρ' x _ (r2 _ s.gd.dom (inN s)) _ (hstep i _ ρ' hd hinv) _ fun σ3 ρ3 c h3 => ?_
    exact eb A S Fr1 O' σ3 ρ3 H2 (c.sd s2) { D with nx := Inv (i + 1), ct := Inv (i + 1), bk := D.nx } _ ⟨fun O4 σ4 ρ4 H4 s4 h4 => ⟨O4, ρ4, s4, h4⟩, fun v dv H4 g1 g2 g3 r4 h4 => L.rt v dv H4 g1 (le1.trans g2) g3 r4 h4, fun O4 σ4 ρ4 H4 s4 h4 => L.nx O4 σ4 ρ4 H4 (back s4) h4, fun O4 σ4 ρ4 H4 s4 h4 => ⟨O4, ρ4, s4, h4⟩⟩ h3
  · have e : i = xs.length := by omega
    subst e
    exact .inl ⟨it.stop H' (kp s) _ (Nat.le_refl _), L.nx O' σ' ρ' H' (back s) (hend ρ' hinv)⟩
end

/-! ### comprehensions -/
section
variable {X : Cx} {tg iter elt : Expr} {ifs : List Expr} {pos : Pos} {wi : WI} {is : List Nat} {g : WG} {wt : WT} {we : WE}
structure DTs (X : Cx) (ifs : List Expr) (w : WT) : Prop where
  ex : PTs X ifs (ttOf X.K w)
@[simp] def wYes : WT := fun _ φ => φ true
theorem dts_nil : DTs X [] wYes := ⟨⟨fun pins s σ H Q I h => by
  obtain ⟨M, S, ρ, φ, gd, sv, hw, hQ⟩ := h
  exact pts_nil.run pins s σ H Q I (hQ true H .refl hw)⟩⟩
theorem dts_one {c : Expr} {w : WT} (h : DT X c w) : DTs X [c] w := ⟨pts_one h.pt⟩
def wLc (wi : WI) (g : WG) (wt : WT) (we : WE) (is : List Nat) : WE := fun ρ φ => wi ρ fun xs => ∃ Inv : Nat → List PD → Prop, Inv 0 [] ∧
  (∀ (i : Nat) d acc, xs[i]? = some d → Inv i acc → g d (wipeD ρ is) fun ρ2 => wt ρ2 fun b => if b = true then we ρ2 fun dv => ∃ y, dv = .dat y ∧ acc.length < sizeLine ∧ Inv (i + 1) (acc ++ [y]) else Inv (i + 1) acc) ∧
  ∀ acc, Inv xs.length acc → φ (.dat (.list acc))
theorem evLc {K : PySem.W.Frag} {ti : TI} (ei : EvI K ti wi) : EvE K (tLc ti (tgOf K is g) (ttOf K wt) (tOf K we) is) (wLc wi g wt we is) := by
  intro M S σ ρ H gd sv φ h Q hQ
  refine ei M S σ ρ H gd sv _ h _ ?_
  rintro J xs H1 a1 ⟨Inv, h0, hstep, hend⟩ it D hD
  have gd1 := a1.gd gd
  have sv1 := sv.to gd a1
  have nD : D ∉ M := gd1.fresh hD
  -- the new list is one of those that are set aside
  have growLe : ∀ {H' : Hp}, To S H1 H' → Le (msk M H1) (msk (D :: M) H') := fun {H'} a x o q => by
    obtain ⟨n, e⟩ := of_msk q
    have nx : x ∉ D :: M := fun z => by
      rcases List.mem_cons.mp z with y | y
      · rw [y, hD] at e; cases e
      · exact n y
    rw [msk_out nx]
    exact a.kp x o (fun z => n (gd.fo x z)) e
  have svAt : ∀ {H' : Hp}, To S H1 H' → SV K (D :: M) S H' (L2.wipe σ is) (wipeD ρ is) := fun {H'} a => by
    have s1 := sv1.wipe is
    refine ⟨s1.1, fun i dv e => ?_⟩
    obtain ⟨v, q, r⟩ := s1.2 i dv e
    refine ⟨v, q, ?_⟩
    cases dv with
    | dat d => exact dp_le (growLe a) r
    | own ys =>
      obtain ⟨p, vs, e1, m, n, q2, hs⟩ := r
      exact ⟨p, vs, e1, List.mem_cons_of_mem _ m, n, a.kp p _ n q2, dps_le (growLe a) hs⟩
    | src => exact r
  have gdAt : ∀ {H' : Hp}, To S H1 H' → H' D ≠ none → Gd (D :: M) S H' := fun {H'} a hd => ⟨fun x hx => by
    rcases List.mem_cons.mp hx with y | y
    · rw [y]; exact hd
    · exact a.dom x (gd1.dom x y), fun x hx => List.mem_cons_of_mem _ (gd.fo x hx), a.jo gd1.jo⟩
  have updTo : ∀ {H' : Hp} {o : HO}, To S H1 H' → To S H1 (upd H' D o) := fun {H' o} a =>
    { kp := fun x u n e => by rw [upd_ne (ne_of_none e hD)]; exact a.kp x u n e
      dom := fun x hx => by
        by_cases z : x = D
        · subst z; exact absurd hD hx
        · rw [upd_ne z]; exact a.dom x hx
      jo := fun j => by
        have j1 := a.jo j
        cases S with
        | none => trivial
        | some p =>
          obtain ⟨s, c⟩ := p
          have j0 : Src s c H1 := j
          obtain ⟨_, _, _, _, _, e1, e2⟩ := j0
          exact src_keep j1 (fun o e => by rw [upd_ne (ne_of_none e1 hD)]; exact e) (fun o e => by rw [upd_ne (ne_of_none e2 hD)]; exact e) }
  have kpAt : ∀ {H' : Hp}, To S H1 H' → Kp M H1 H' := fun {H'} a x o n e => a.kp x o (fun z => n (gd.fo x z)) e
  have inN : ∀ a ∈ D :: M, a ∈ M ∨ H1 a = none := fun a ha => by
    rcases List.mem_cons.mp ha with y | y
    · rw [y]; exact .inr hD
    · exact .inl y
  refine ⟨fun i m H' => m = xs.length - i ∧ i ≤ xs.length ∧ To S H1 H' ∧ ∃ acc vs, H' D = some (.lst vs) ∧ DqAll K (msk (D :: M) H') vs acc ∧ Inv i acc,
    ⟨xs.length, by simp, Nat.zero_le _, updTo .refl, [], [], upd_same, .nil, h0⟩, ?_⟩
  rintro i m H' ⟨rfl, hi, a2, acc, vs, hvs, hacc, hinv⟩
  by_cases hlt : i < xs.length
  · have hd : xs[i]? = some xs[i] := by simp [hlt]
    refine .inr ⟨it.go H' (kpAt a2) i _ hd, fun H4 => To S H1 H4 ∧ ∃ acc vs, H4 D = some (.lst vs) ∧ DqAll K (msk (D :: M) H4) vs acc ∧ Inv (i + 1) acc, fun H4 hN => ⟨xs.length - (i + 1), by omega, rfl, hlt, hN⟩, fun x H2 y => ?_⟩
    obtain ⟨l2, r2⟩ := it.yld H' (kpAt a2) i _ hd x H2 y
    have gdD := gdAt a2 (by rw [hvs]; intro z; cases z)
    have a3 : To S H1 H2 := a2.trans (To.le l2)
    have gd2 := (To.le (S := S) l2).gd gdD
    refine tgOf_ev (D :: M) S H2 _ (wipeD ρ is) x _ (r2 _ gdD.dom inN) _ (hstep i _ acc hd hinv) _ fun σ3 ρ3 c h3 => ⟨c.wiped, ?_⟩
    have sv3 := c.sv (svAt a3)
    refine ttOf_ev (D :: M) S σ3 ρ3 H2 gd2 sv3 _ h3 _ fun b H5 a5 h5 => ?_
    have hv5 : H5 D = some (.lst vs) := a5.kp D _ (fun z => nD (gd.fo D z)) (l2 D _ hvs)
    have k5 : Le (msk (D :: M) H') (msk (D :: M) H5) := ((To.le (S := S) l2).trans a5).msk gdD
    cases b with
    | false => exact ⟨a3.trans a5, acc, vs, hv5, dps_le k5 hacc, h5⟩
    | true =>
      refine tOf_ev (D :: M) S σ3 ρ3 H5 (a5.gd gd2) (sv3.to gd2 a5) _ h5 _ ?_
      rintro v _ H6 a6 r6 ⟨y, rfl, hz, h6⟩
      have k6 := a6.msk (a5.gd gd2)
      have same : Le (msk (D :: M) H6) (msk (D :: M) (upd H6 D (.lst (vs ++ [v])))) := fun x o q => by
        obtain ⟨n, e⟩ := of_msk q
        rw [msk_out n, upd_ne (fun z => n (by rw [z]; exact List.mem_cons_self))]
        exact e
      refine ⟨vs, a6.kp D _ (fun z => nD (gd.fo D z)) hv5, by rw [dps_len hacc]; exact hz, updTo ((a3.trans a5).trans a6), acc ++ [y], vs ++ [v], upd_same, ?_, h6⟩
      exact dps_app (dps_le same (dps_le k6 (dps_le k5 hacc))) (.cons (dp_le same r6) .nil)
  · have e : i = xs.length := by omega
    subst e
    refine .inl ⟨it.stop H' (kpAt a2) _ (Nat.le_refl _), hQ _ _ H' (a1.trans a2) ?_ (hend acc hinv)⟩
    refine .lst ?_ (dps_le (msk_sub fun a h => List.mem_cons_of_mem _ h) hacc)
    rw [msk_out nD]
    exact hvs
theorem de_lc {scope : Scope} {own : List (Str × Nat)} (hN : X.N.Nodup) (hi : DI X tg iter wi) (ok : BlkOk X.N X.env.scope scope own) (his : own.map (·.2) = is)
    (hg : ∀ (s : Shared) (H : Hp) (C : Addr) (cl : List (Str × Addr)) (fp : List Addr), DG (X.blk s H scope (compEnvC scope cl C X.env) fp) tg is g)
    (ht : ∀ (s : Shared) (H : Hp) (C : Addr) (cl : List (Str × Addr)) (fp : List Addr), DTs (X.blk s H scope (compEnvC scope cl C X.env) fp) ifs wt)
    (he : ∀ (s : Shared) (H : Hp) (C : Addr) (cl : List (Str × Addr)) (fp : List Addr), DE (X.blk s H scope (compEnvC scope cl C X.env) fp) elt we) (hc : X.calm = true := by rfl) (hs : ∀ x, foldedSetIterable iter X.env x = pure x := by intro _; rfl) :
    DE X (.ListComp elt [⟨tg, iter, ifs, 0⟩] scope pos) (wLc wi g wt we is) := by
  obtain ⟨ti, pi, ei⟩ := hi
  subst his
  refine ⟨_, pe_lc (te := tOf X.K we) (tt := ttOf X.K wt) (g := tgOf X.K (own.map (·.2)) g) hc hN pi ok (fun s H C cl fp => (hg s H C cl fp).pg) (fun s H C cl fp => (ht s H C cl fp).ex) (fun s H C cl fp => (he s H C cl fp).pe) hs, evLc ei⟩
/-- y = [..] on one line -/
theorem ds_setLc {scope : Scope} {own : List (Str × Nat)} {j : Nat} {y : Str} {py spos : Pos} (hN : X.N.Nodup) (hi : DI X tg iter wi) (ok : BlkOk X.N X.env.scope scope own) (his : own.map (·.2) = is)
    (hg : ∀ (s : Shared) (H : Hp) (C : Addr) (cl : List (Str × Addr)) (fp : List Addr), DG (X.blk s H scope (compEnvC scope cl C X.env) fp) tg is g)
    (ht : ∀ (s : Shared) (H : Hp) (C : Addr) (cl : List (Str × Addr)) (fp : List Addr), DTs (X.blk s H scope (compEnvC scope cl C X.env) fp) ifs wt)
    (he : ∀ (s : Shared) (H : Hp) (C : Addr) (cl : List (Str × Addr)) (fp : List Addr), DE (X.blk s H scope (compEnvC scope cl C X.env) fp) elt we)
    (hy : X.N[j]? = some y := by rfl) (hyl : X.env.scope.names.lookup y = some .local := by rfl) (hc : X.calm = true := by rfl)
    (hsw : swapsWith (.ListComp elt [⟨tg, iter, ifs, 0⟩] scope pos) (some (.Name y py)) spos.line X.env = pure true := by exact sw_true rfl rfl rfl (by decide +kernel)) (hs : ∀ x, foldedSetIterable iter X.env x = pure x := by intro _; rfl) :
    DS X (.Assign [.Name y py] (.ListComp elt [⟨tg, iter, ifs, 0⟩] scope pos) spos) (wAsg (wLc wi g wt we is) j) := by
  obtain ⟨ti, pi, ei⟩ := hi
  subst his
  refine ⟨_, ps_setLc (te := tOf X.K we) (tt := ttOf X.K wt) (g := tgOf X.K (own.map (·.2)) g) hc hN hy hyl hsw pi ok (fun s H C cl fp => (hg s H C cl fp).pg) (fun s H C cl fp => (ht s H C cl fp).ex) (fun s H C cl fp => (he s H C cl fp).pe) hs, ?_⟩
  intro A S Fr O σ ρ H sd D D' L h
  refine evLc ei _ S σ ρ H sd.gd sd.sv _ h _ ?_
  rintro v _ H1 a1 r ⟨d, rfl, h1⟩
  exact L.nx O _ _ H1 ((sd.to a1).set j r) h1
end
end Vf

set_option Elab.async false
set_option linter.all false
set_option maxRecDepth 100000
set_option maxHeartbeats 4000000
set_option exponentiation.threshold 600
/-! Vf5: repr, slices, +, *, in, sorted, sets by data -/
namespace Vf
open PySem PySem.Spec PyProof.Rows L2

/-! ### data that can be shown and compared -/
/-- ints below 10^B in size, depth at most n, at most b items -/
structure Fine (B n b : Nat) (d : PD) : Prop where
  short : d.leavesShort (B + 1) = true
  show_ : d.showable = true
  lay : d.canLay0 = true
  deep : d.depth ≤ n
  few : d.bulk ≤ b
theorem Fine.shaped {B n b : Nat} {d : PD} (h : Fine B n b d) (hn : n ≤ 64 := by decide) : SeqAt.shaped d = true := by
  unfold SeqAt.shaped
  rw [h.lay, Bool.true_and]
  exact decide_eq_true (Nat.le_trans h.deep hn)
theorem Fine.fits {B n b : Nat} {d : PD} (h : Fine B n b d) (h7 : 7 ≤ B := by decide) (hz : (B + 3) * b + (B + 1) ≤ 16777216 := by decide) : d.shown.length ≤ sizeLine := by
  have h1 := PyData.shown_le_bulk (B + 1) (by omega) d h.short
  have h2 : (B + 1 + 2) * d.bulk ≤ (B + 3) * b := Nat.mul_le_mul (Nat.le_refl _) h.few
  rw [sizeLine_eq]
  omega
theorem Fine.mono {B n b n' b' : Nat} {d : PD} (h : Fine B n b d) (hn : n ≤ n') (hb : b ≤ b') : Fine B n' b' d := ⟨h.short, h.show_, h.lay, Nat.le_trans h.deep hn, Nat.le_trans h.few hb⟩
theorem fine_none {B : Nat} : Fine B 0 0 .none := ⟨rfl, rfl, rfl, Nat.le_refl _, Nat.le_refl _⟩
theorem fine_bool {B : Nat} (b : Bool) : Fine B 0 0 (.bool b) := ⟨rfl, rfl, rfl, Nat.le_refl _, Nat.le_refl _⟩
theorem fine_int {B : Nat} {i : Int} (h : i.natAbs < 10 ^ B) (hB : 0 < B := by decide) (hB2 : B ≤ 500 := by decide) : Fine B 0 0 (.int i) := by
  have e1 : (PyData.shown (.int i)).length ≤ B + 1 := by
    rw [PyData.shown_int]
    rw [PySem.ofString_length]
    exact int_text_length_le10 hB h
  have e2 : i.natAbs.log2 < 1920 := by
    rcases Nat.eq_zero_or_pos i.natAbs with z | z
    · rw [z]; decide
    · rw [Nat.log2_lt (by omega)]
      refine Nat.lt_of_lt_of_le h ?_
      have h1 : (10 : Nat) ^ B ≤ 10 ^ 500 := Nat.pow_le_pow_right (by decide) hB2
      exact Nat.le_trans h1 (by decide +kernel)
  refine ⟨?_, ?_, ?_, Nat.le_refl _, Nat.le_refl _⟩
  · simp only [PyData.leavesShort]
    exact decide_eq_true e1
  · simp only [PyData.showable]
    exact decide_eq_true e2
  · simp only [PyData.canLay0]
theorem fine_all {B n b : Nat} : ∀ {ds : List PD}, (∀ x ∈ ds, Fine B n b x) → PyData.leavesShortAll (B + 1) ds = true ∧ PyData.showableAll ds = true ∧ PyData.canLayAll0 ds = true ∧ PyData.depthAll ds ≤ n ∧ PyData.bulkAll ds ≤ ds.length * (b + 1)
  | [], _ => by simp [PyData.leavesShortAll, PyData.showableAll, PyData.canLayAll0, PyData.depthAll, PyData.bulkAll]
  | x :: ds, h => by
    obtain ⟨a1, a2, a3, a4, a5⟩ := fine_all (ds := ds) fun y hy => h y (List.mem_cons_of_mem _ hy)
    have hx := h x List.mem_cons_self
    refine ⟨?_, ?_, ?_, ?_, ?_⟩
    · simp only [PyData.leavesShortAll, hx.short, a1, Bool.and_self]
    · simp only [PyData.showableAll, hx.show_, a2, Bool.and_self]
    · simp only [PyData.canLayAll0, hx.lay, a3, Bool.and_self]
    · simp only [PyData.depthAll]
      have := hx.deep
      omega
    · simp only [PyData.bulkAll, List.length_cons]
      have := hx.few
      rw [Nat.add_mul]
      omega
theorem fine_tup {B n b : Nat} {ds : List PD} (h : ∀ x ∈ ds, Fine B n b x) : Fine B (n + 1) (ds.length * (b + 1)) (.tuple ds) := by
  obtain ⟨a1, a2, a3, a4, a5⟩ := fine_all h
  refine ⟨?_, ?_, ?_, ?_, ?_⟩
  · simp only [PyData.leavesShort]; exact a1
  · simp only [PyData.showable]; exact a2
  · simp only [PyData.canLay0]; exact a3
  · simp only [PyData.depth]; omega
  · simp only [PyData.bulk]; exact a5
theorem fine_lst {B n b : Nat} {ds : List PD} (h : ∀ x ∈ ds, Fine B n b x) : Fine B (n + 1) (ds.length * (b + 1)) (.list ds) := by
  obtain ⟨a1, a2, a3, a4, a5⟩ := fine_all h
  refine ⟨?_, ?_, ?_, ?_, ?_⟩
  · simp only [PyData.leavesShort]; exact a1
  · simp only [PyData.showable]; exact a2
  · simp only [PyData.canLay0]; exact a3
  · simp only [PyData.depth]; omega
  · simp only [PyData.bulk]; exact a5

/-! ### repr -/
/-- can be shown -/
def Shw (d : PD) : Prop := d.showable = true ∧ d.canLay0 = true ∧ d.depth ≤ 100 ∧ d.shown.length ≤ sizeLine
theorem Fine.shw {B n b : Nat} {d : PD} (h : Fine B n b d) (hn : n ≤ 100 := by decide) (h7 : 7 ≤ B := by decide) (hz : (B + 3) * b + (B + 1) ≤ 16777216 := by decide) : Shw d := ⟨h.show_, h.lay, Nat.le_trans h.deep hn, h.fits h7 hz⟩
@[simp] def cRepr : GC := fun ds φ => ∃ x d, ds = [x] ∧ asD x = some d ∧ Shw d ∧ φ (.dat (.str d.shown))
theorem b_repr {X : Cx} {k : Nat} (grd : X.A.guards = some []) (room : Room k X.A) : CG X (.builtin "repr") cRepr := by
  refine ⟨fun xs H Q => ∃ x d, xs = [x] ∧ Dp X.K H x d ∧ d.showable = true ∧ d.canLay0 = true ∧ d.depth ≤ 100 ∧ d.shown.length ≤ sizeLine ∧ Q (.str d.shown) H, ?_, ?_⟩
  · rintro pins s σ H xs us Q I r ⟨x, d, rfl, hd, h1, h2, h3, h4, q⟩
    obtain ⟨u, rfl, rx⟩ := vals1 r
    have un : X.A.units + (d.depth + 1) < cLine := by
      have := room.un
      omega
    obtain ⟨as, rd⟩ := Dp.reads I d x u hd rx
    have big : ∀ a, u = .ref a → wpAny (model X.prog X.w) X.A (call (.builtin "repr") [u]) (EP X pins σ Q) X.xe s := by
      rintro a rfl
      exact repr_of_reads' rd h1 (PyData.noDict_hsm (PyData.hasDict_of_canLay d h2)) grd un (fun _ _ e => e) (fun h' t tk k => ⟨.str d.shown, H, I.kept (t' := tk) k, ⟨_, rfl⟩, q⟩) h4
    cases hd with
    | non =>
      cases rx
      exact P.repr_of_none ⟨.str (PyData.shown .none), H, I.tok _, (show ∃ t, Value.str _ _ = Value.str (PyData.shown .none) t from ⟨s.toks, by simp only [PyData.shown]⟩), q⟩
    | bl b =>
      cases rx
      refine P.repr_of_bool ⟨.str (PyData.shown (.bool b)), H, I.tok _, ?_, q⟩
      exact (show ∃ t, Value.str _ _ = Value.str (PyData.shown (.bool b)) t from ⟨s.toks, by simp only [PyData.shown]⟩)
    | int i =>
      obtain ⟨t, rfl⟩ := rx
      refine P.repr_of_int (by simpa only [PyData.showable, decide_eq_true_eq] using h1) ⟨.str (PyData.shown (.int i)), H, I.tok _, ?_, q⟩
      exact (show ∃ t, Value.str _ _ = Value.str (PyData.shown (.int i)) t from ⟨_, by rw [PyData.shown_int]⟩)
    | str y =>
      obtain ⟨t, rfl⟩ := rx
      have e : PyData.shown (.str y) = reprText y := by simp only [PyData.shown]
      refine P.repr_of_str ⟨.str (PyData.shown (.str y)), H, I.tok _, (show ∃ t, Value.str _ _ = Value.str (PyData.shown (.str y)) t from ⟨_, by rw [e]⟩), q⟩ (by rw [← e]; exact h4)
    | lst _ _ => exact big _ rx
    | tup _ _ => exact big _ rx
  · rintro M S H xs _ gd rs φ ⟨x, d, rfl, e, ⟨h1, h2, h3, h4⟩, h⟩ Q hQ
    obtain ⟨v, rfl, r⟩ := rds1 rs
    exact ⟨v, d, rfl, r.full e, h1, h2, h3, h4, hQ _ _ H .refl rd_str h⟩

/-! ### in -/
def flatD : PD → Bool
  | .none | .bool _ | .int _ | .str _ => true
  | _ => false
theorem flat_of {K : PySem.W.Frag} {H : Hp} {v : V} {d : PD} (h : Dq K H v d) (f : flatD d = true) : flatV v = true := by
  cases h with
  | non => rfl
  | bl _ => rfl
  | int _ => rfl
  | str _ => rfl
  | lst _ _ => cases f
  | tup _ _ => cases f
theorem eqv_of {K : PySem.W.Frag} {H : Hp} {v u : V} {d e : PD} (h : Dq K H v d) (g : Dq K H u e) (f : flatD d = true) (f' : flatD e = true) : eqV v u = PyData.eqv d e := by
  cases h with
  | non => cases g with
    | non => rfl | bl _ => rfl | int _ => rfl | str _ => rfl | lst _ _ => cases f' | tup _ _ => cases f'
  | bl _ => cases g with
    | non => rfl | bl _ => rfl | int _ => rfl | str _ => rfl | lst _ _ => cases f' | tup _ _ => cases f'
  | int _ => cases g with
    | non => rfl | bl _ => rfl | int _ => rfl | str _ => rfl | lst _ _ => cases f' | tup _ _ => cases f'
  | str _ => cases g with
    | non => rfl | bl _ => rfl | int _ => rfl | str _ => rfl | lst _ _ => cases f' | tup _ _ => cases f'
  | lst _ _ => cases f
  | tup _ _ => cases f
theorem flats_of {K : PySem.W.Frag} {H : Hp} : ∀ {vs : List V} {ds : List PD}, DqAll K H vs ds → ds.all flatD = true → vs.all flatV = true
  | _, _, .nil, _ => rfl
  | _, _, .cons h hs, f => by
    rw [List.all_cons, Bool.and_eq_true] at f ⊢
    exact ⟨flat_of h f.1, flats_of hs f.2⟩
theorem in_of {K : PySem.W.Frag} {H : Hp} {x : V} {d : PD} (hx : Dq K H x d) (fx : flatD d = true) : ∀ {vs : List V} {ds : List PD}, DqAll K H vs ds → ds.all flatD = true → inV x vs = ds.any fun y => PyData.eqv y d
  | _, _, .nil, _ => rfl
  | _, _, .cons h hs, f => by
    rw [List.all_cons, Bool.and_eq_true] at f
    have ih := in_of hx fx hs f.2
    unfold inV at ih ⊢
    rw [List.any_cons, List.any_cons, ih, eqv_of h hx f.1 fx]
@[simp] def gIn (neg : Bool) : G2 := fun x y φ => ∃ d xs, x = .dat d ∧ seqD y = some xs ∧ flatD d = true ∧ xs.all flatD = true ∧ φ (db (if neg then !(xs.any fun y => PyData.eqv y d) else xs.any fun y => PyData.eqv y d))
section
variable {X : Cx} {pos : Pos}
theorem dr_in {K : PySem.W.Frag} {neg : Bool} : DR2 K (rIn K neg) (gIn neg) := by
  rintro M S H x y _ dy gd rx ry φ ⟨d, xs, rfl, e, f, fs, h⟩ Q hQ
  obtain ⟨p, us, rfl, sq, hs⟩ := ry.seq e
  refine ⟨p, us, rfl, sq, flat_of rx f, flats_of hs fs, ?_⟩
  rw [in_of rx f hs fs]
  exact hQ _ _ H .refl rd_bl h
theorem o_in : OG X (compareOp .In) (gIn false) := ⟨_, op_in_seq, dr_in⟩
theorem o_notIn : OG X (compareOp .NotIn) (gIn true) := ⟨_, op_notIn_seq, dr_in⟩
/-- is True, is False -/
@[simp] def gIsB : G2 := fun x y φ => ∃ a b : Bool, x = db a ∧ y = db b ∧ φ (db (decide (a = b)))
theorem o_isB : OG X (compareOp .Is) gIsB := ⟨_, op_isBl, by
  rintro M S H x y _ _ gd rx ry φ ⟨a, b, rfl, rfl, h⟩ Q hQ
  exact ⟨a, b, rx.bl, ry.bl, hQ _ _ H .refl rd_bl h⟩⟩

/-! ### + and * of tuples, of lists -/
def gCatT : G2 := fun x y φ => ∃ xs ys, x = .dat (.tuple xs) ∧ y = .dat (.tuple ys) ∧ xs.length + ys.length ≤ sizeLine ∧ φ (.dat (.tuple (xs ++ ys)))
theorem o_catT : OG X (binaryOp .Add) gCatT := ⟨_, op_catA, by
  rintro M S H x y _ _ gd rx ry φ ⟨xs, ys, rfl, rfl, hz, h⟩ Q hQ
  obtain ⟨a, us, rfl, sa, ha⟩ := dp_tup_inv rx
  obtain ⟨b, ws, rfl, sb, hb⟩ := dp_tup_inv ry
  refine ⟨a, b, us, ws, rfl, rfl, sqt_le msk_le sa, sqt_le msk_le sb, by rw [dps_len ha, dps_len hb]; exact hz, fun e => ?_, fun _ e => ?_, fun _ _ p hp => ?_⟩
  · subst e
    cases ha
    exact hQ _ _ H .refl ry h
  · subst e
    cases hb
    rw [List.append_nil] at h
    exact hQ _ _ H .refl rx h
  · exact hQ _ _ _ (To.new hp) (rd_newT gd hp (dps_app ha hb)) h⟩
def gCatL : G2 := fun x y φ => ∃ xs ys, x = .dat (.list xs) ∧ y = .dat (.list ys) ∧ xs.length + ys.length ≤ sizeLine ∧ φ (.dat (.list (xs ++ ys)))
theorem o_catL : OG X (binaryOp .Add) gCatL := ⟨_, op_cat, by
  rintro M S H x y _ _ gd rx ry φ ⟨xs, ys, rfl, rfl, hz, h⟩ Q hQ
  obtain ⟨a, us, rfl, sa, ha⟩ := dp_lst_inv rx
  obtain ⟨b, ws, rfl, sb, hb⟩ := dp_lst_inv ry
  refine ⟨a, b, us, ws, rfl, rfl, msk_le _ _ sa, msk_le _ _ sb, by rw [dps_len ha, dps_len hb]; exact hz, fun p hp => ?_⟩
  exact hQ _ _ _ (To.new hp) (rd_newL gd hp (dps_app ha hb)) h⟩
def gRepL : G2 := fun x y φ => ∃ (xs : List PD) (k : Int), x = .dat (.list xs) ∧ y = di k ∧ -(2 ^ 63) ≤ k ∧ k < 2 ^ 63 ∧ xs.length * k.toNat ≤ sizeLine ∧ φ (.dat (.list (List.replicate k.toNat xs).flatten))
theorem dps_rep {K : PySem.W.Frag} {H : Hp} {vs : List V} {ds : List PD} (h : DqAll K H vs ds) : ∀ k : Nat, DqAll K H (List.replicate k vs).flatten (List.replicate k ds).flatten
  | 0 => .nil
  | k + 1 => by
    rw [List.replicate_succ, List.replicate_succ, List.flatten_cons, List.flatten_cons]
    exact dps_app h (dps_rep h k)
end

/-! ### slices -/
def cutD (xs : List PD) (lo hi : Option Int) : List PD := (xs.drop (HT.sIx xs.length 0 lo)).take (HT.sIx xs.length xs.length hi - HT.sIx xs.length 0 lo)
abbrev WO := DSt → (Option Int → Prop) → Prop
def EvO (K : PySem.W.Frag) (t : TO) (w : WO) : Prop := ∀ (M : List Addr) (S : So) (σ : L2.St) (ρ : DSt) (H : Hp), Gd M S H → SV K M S H σ ρ → ∀ φ : Option Int → Prop, w ρ φ → ∀ Q : Option Int → Hp → Prop, (∀ o H', To S H H' → φ o → Q o H') → t σ H Q
structure DO (X : Cx) (e : Option Expr) (w : WO) : Prop where
  ex : ∃ t, PO X e t ∧ EvO X.K t w
@[simp] def wPart (we : WE) : WO := fun ρ φ => we ρ fun dv => ∃ i, dv = di i ∧ φ (some i)
@[simp] def wNoPart : WO := fun _ φ => φ none
section
variable {X : Cx} {e : Expr} {we : WE} {pos p2 : Pos} {lo hi : Option Expr} {wl wh : WO}
theorem do_none : DO X none wNoPart := ⟨_, po_none, fun M S σ ρ H gd sv φ h Q hQ => hQ none H .refl h⟩
theorem do_some (h : DE X e we) : DO X (some e) (wPart we) := by
  obtain ⟨t, p, ev⟩ := h
  refine ⟨_, po_some p, ?_⟩
  intro M S σ ρ H gd sv φ h Q hQ
  refine ev M S σ ρ H gd sv _ h _ ?_
  rintro v _ H1 a1 r ⟨i, rfl, h1⟩
  exact ⟨i, r.int, hQ _ H1 a1 h1⟩
def wSlT (we : WE) (wl wh : WO) : WE := fun ρ φ => we ρ fun dv => wl ρ fun l => wh ρ fun u => ∃ xs, dv = .dat (.tuple xs) ∧ φ (.dat (.tuple (cutD xs l u)))
def wSlL (we : WE) (wl wh : WO) : WE := fun ρ φ => we ρ fun dv => wl ρ fun l => wh ρ fun u => ∃ xs, dv = .dat (.list xs) ∧ φ (.dat (.list (cutD xs l u)))
theorem dps_cut {K : PySem.W.Frag} {H : Hp} {vs : List V} {ds : List PD} (h : DqAll K H vs ds) (lo hi : Option Int) : DqAll K H (cutV vs lo hi) (cutD ds lo hi) := by
  unfold cutV cutD
  rw [dps_len h]
  exact dps_take _ (dps_drop _ h)
theorem de_slT (he : DE X e we) (hl : DO X lo wl) (hh : DO X hi wh) : DE X (.Subscript e (.Slice lo hi none p2) pos) (wSlT we wl wh) := by
  obtain ⟨t, p, ev⟩ := he
  obtain ⟨tl, pl, el⟩ := hl
  obtain ⟨th, ph, eh⟩ := hh
  refine ⟨_, pe_slice sl_tupA p pl ph, ?_⟩
  intro M S σ ρ H gd sv φ h Q hQ
  refine ev M S σ ρ H gd sv _ h _ fun v dv H1 a1 r h1 => ?_
  refine el M S σ ρ H1 (a1.gd gd) (sv.to gd a1) _ h1 _ fun l H2 a2 h2 => ?_
  refine eh M S σ ρ H2 (a2.gd (a1.gd gd)) ((sv.to gd a1).to (a1.gd gd) a2) _ h2 _ ?_
  rintro u H3 a3 ⟨xs, rfl, h3⟩
  have g2 := a2.gd (a1.gd gd)
  have r3 := (r.to (a1.gd gd) a2).to g2 a3
  obtain ⟨a, us, rfl, sq, hs⟩ := dp_tup_inv r3
  refine ⟨a, us, rfl, sqt_le msk_le sq, fun e => ?_, fun _ p hp => ?_⟩
  · have e2 : cutD xs l u = xs := by
      have el := dps_len hs
      rw [el] at e
      unfold cutD
      rw [e.1, e.2]
      simp
    rw [e2] at h3
    exact hQ _ _ H3 ((a1.trans a2).trans a3) r3 h3
  · exact hQ _ _ _ (((a1.trans a2).trans a3).trans (To.new hp)) (rd_newT (a3.gd g2) hp (dps_cut hs l u)) h3
theorem de_slL (he : DE X e we) (hl : DO X lo wl) (hh : DO X hi wh) : DE X (.Subscript e (.Slice lo hi none p2) pos) (wSlL we wl wh) := by
  obtain ⟨t, p, ev⟩ := he
  obtain ⟨tl, pl, el⟩ := hl
  obtain ⟨th, ph, eh⟩ := hh
  refine ⟨_, pe_slice sl_list p pl ph, ?_⟩
  intro M S σ ρ H gd sv φ h Q hQ
  refine ev M S σ ρ H gd sv _ h _ fun v dv H1 a1 r h1 => ?_
  refine el M S σ ρ H1 (a1.gd gd) (sv.to gd a1) _ h1 _ fun l H2 a2 h2 => ?_
  refine eh M S σ ρ H2 (a2.gd (a1.gd gd)) ((sv.to gd a1).to (a1.gd gd) a2) _ h2 _ ?_
  rintro u H3 a3 ⟨xs, rfl, h3⟩
  have g2 := a2.gd (a1.gd gd)
  have r3 := (r.to (a1.gd gd) a2).to g2 a3
  obtain ⟨a, us, rfl, sq, hs⟩ := dp_lst_inv r3
  exact ⟨a, us, rfl, SqL.of (msk_le _ _ sq), fun p hp => hQ _ _ _ (((a1.trans a2).trans a3).trans (To.new hp)) (rd_newL (a3.gd g2) hp (dps_cut hs l u)) h3⟩
/-- xs[::-1] of a list -/
@[simp] def wRev (we : WE) : WE := fun ρ φ => we ρ fun dv => ∃ xs, dv = .dat (.list xs) ∧ φ (.dat (.list xs.reverse))
theorem de_revL {k : Nat} {p1 p3 p4 : Pos} (he : DE X e we) : DE X (.Subscript e (.Slice none none (some (.UnaryOp .USub (.Constant (.int 1) k p1) p2)) p3) pos) (wRev we) := by
  obtain ⟨t, p, ev⟩ := he
  refine ⟨_, pe_revL p, ?_⟩
  intro M S σ ρ H gd sv φ h Q hQ
  refine ev M S σ ρ H gd sv _ h _ ?_
  rintro v _ H1 a1 r ⟨xs, rfl, h1⟩
  obtain ⟨a, us, rfl, sq, hs⟩ := dp_lst_inv r
  exact ⟨a, us, rfl, SqL.of (msk_le _ _ sq), fun p hp => hQ _ _ _ (a1.trans (To.new hp)) (rd_newL (a1.gd gd) hp (dps_rev hs)) h1⟩
end

/-! ### sorted -/
theorem lst_full {K : PySem.W.Frag} {M : List Addr} {S : So} {H : Hp} {v : V} {ds : List PD} : ∀ {dv : DV}, RD K M S H v dv → asD dv = some (.list ds) → ∃ a xs, v = .ref a ∧ SqL K H a xs ∧ DqAll K (msk M H) xs ds
  | .dat _, r, e => by
    cases e
    obtain ⟨a, xs, e1, h, hs⟩ := dp_lst_inv r
    exact ⟨a, xs, e1, SqL.of (msk_le _ _ h), hs⟩
  | .own _, ⟨p, vs, e1, _, _, q, hs⟩, e => by
    cases e
    exact ⟨p, vs, e1, SqL.of q, hs⟩
  | .src, _, e => nomatch e
@[simp] def cSortI : GC := fun ds φ => ∃ d ns, ds = [d] ∧ asD d = some (.list (ns.map .int)) ∧ ∀ ns' : List Int, ns'.Perm ns → ns'.Pairwise (· ≤ ·) → φ (.dat (.list (ns'.map .int)))
section
variable {X : Cx} {pos : Pos}
theorem rd_ints {K : PySem.W.Frag} {M : List Addr} {S : So} {H : Hp} {p : Addr} {ns : List Int} (g : Gd M S H) (h : H p = none) : RD K M S (upd H p (.lst (ns.map V.int))) (.ref p) (.dat (.list (ns.map .int))) := rd_newL g h (dps_ints ns)
theorem b_sortI : CG X (.builtin "sorted") cSortI := ⟨_, cr_sortedI, by
  rintro M S H xs _ gd rs φ ⟨d, ns, rfl, e, h⟩ Q hQ
  obtain ⟨x, rfl, r⟩ := rds1 rs
  obtain ⟨a, us, rfl, sq, hs⟩ := lst_full r e
  have := dps_ints_inv hs
  subst this
  exact ⟨a, ns, rfl, sq, fun ns' p pm pw hp => hQ _ _ _ (To.new hp) (rd_ints gd hp) (h ns' pm pw)⟩⟩
/-- sorted(set(t)), t a tuple of few ints -/
theorem cr_setT {X : Cx} (hc : X.calm = true) : CallR X (.type "set") (fun xs H Q => ∃ (a : Addr) (ns : List Int), xs = [.ref a] ∧ SqT X.K H a (ns.map V.int) ∧ ns.length ≤ 1000 ∧ ∀ p c, c ≤ ns.length → H p = none → Q (.ref p) (upd H p (SetO X.w p (fun j => decide (j ∈ ns)) c))) := by
  rintro pins s σ H xs us Q I r ⟨a, ns, rfl, sq, hl, q⟩
  obtain ⟨u, rfl, rx⟩ := vals1 r
  cases rx
  obtain ⟨its, rv, pt, hz⟩ := I.tuple sq
  refine call_set_tupI ns (I.ok.hd hc) (show s.heap.IsTuple a its.toArray from pt) (ints_of_vals rv) (by unfold scanBound; omega) fun h' tk c R hcn k => ?_
  have hn : H s.heap.objs.size = none := I.hok.fresh (Nat.le_refl _)
  exact ⟨.ref s.heap.objs.size, _, I.laid (t' := tk) k (Nat.le_refl _) (setO_new R), rfl, q _ c hcn hn⟩
@[simp] def wSortSet (wa : WE) : WE := fun ρ φ => wa ρ fun dv => ∃ ns : List Int, dv = .dat (.tuple (ns.map .int)) ∧ ns.length < 64 ∧ ∀ ns' : List Int, ns'.Pairwise (· < ·) → (∀ k, k ∈ ns' ↔ k ∈ ns) → φ (.dat (.list (ns'.map .int)))
theorem de_sortSet {e : Expr} {we : WE} {p1 p2 q1 : Pos} (he : DE X e we) (hg : Gl X "sorted") (hm : X.mg "sorted" = none) (hg2 : Gl X "set") (hm2 : X.mg "set" = none) (hc : X.calm = true := by rfl)
    (hs : starEach [e] X.env = (false, eval e X.env) :: starEach [] X.env := by rfl) (hs2 : starEach [.Call (.Name "set" p2) [e] [] q1] X.env = (false, eval (.Call (.Name "set" p2) [e] [] q1) X.env) :: starEach [] X.env := by rfl) :
    DE X (.Call (.Name "sorted" p1) [.Call (.Name "set" p2) [e] [] q1] [] pos) (wSortSet we) := by
  obtain ⟨t, p, ev⟩ := he
  refine ⟨_, pe_callB (he := hs2) (cr_sortedSet hc) hg hm (by decide +kernel) (pa_cons (pe_callTy (he := hs) (cr_setT hc) hg2 hm2 (by decide +kernel) (pa_cons p pa_nil hs)) pa_nil hs2), ?_⟩
  intro M S σ ρ H gd sv φ h Q hQ
  refine ev M S σ ρ H gd sv _ h _ ?_
  rintro v _ H1 a1 r ⟨ns, rfl, hl, h1⟩
  obtain ⟨a, us, rfl, sq, hs⟩ := dp_tup_inv r
  have := dps_ints_inv hs
  subst this
  refine ⟨a, ns, rfl, sqt_le msk_le sq, by omega, fun p c hc1 hp => ⟨p, _, c, rfl, upd_same, by omega, fun ns' p' pw mem _ hp' => ?_⟩⟩
  refine hQ _ _ _ ((a1.trans (To.new hp)).trans (To.new hp')) (rd_ints ((To.new hp).gd (a1.gd gd)) hp') (h1 ns' pw fun k => ?_)
  rw [mem k, decide_eq_true_eq]
end
end Vf

set_option Elab.async false
set_option linter.all false
set_option maxRecDepth 100000
set_option maxHeartbeats 4000000
/-! Vf6: operators whatever the kinds; what is walked whatever its kind; comprehensions in short -/
namespace Vf
open PySem PySem.Spec PyProof.Rows L2

/-! ### a tuple times a number -/
theorem once_meets (l : Addr) (items : Array Value) (n : Nat) (dd : Option Addr) (sl : Array (Option Value)) (u : Tok) :
    Meets (Builtin.«tuple.__mul__» ⟨[.ref l, .int 1 u], []⟩) (fun _ R s => s.heap.get? l = some { cls := .type "tuple", dict := dd, data := .seq items n, slots := sl } ∧ R (.ok (.ret (Value.ref l))) s) := by
  refine .of_wp ?_
  rintro prog w A R ⟨hp, g, d, tk, os⟩ ⟨hl, h⟩
  have f1 := AutoSeq1.idx_int
  wp_walk using wpAny_loadPart' hl
  exact ⟨_, rfl, h⟩
section
variable {X : Cx} {pos : Pos}
theorem op_once : OpR X (binaryOp .Mult) (fun x y H Q => ∃ l xs, x = .ref l ∧ y = .int 1 ∧ SqT X.K H l xs ∧ Q x H) := by
  rintro pins s σ H x y v u Q I rx ry ⟨l, xs, rfl, rfl, sq, q⟩
  cases rx
  obtain ⟨tk, rfl⟩ := ry
  obtain ⟨its, rv, ⟨⟨cl, dd, data, sl⟩, look, isC, m, isD⟩, _⟩ := I.tuple sq
  simp only at isC isD
  subst isC isD
  have ty : ∀ s' : Shared, s'.TypeIs (.int 1 tk) "int" := fun s' => typeIs_int s' 1 tk
  have inner := call_meets (prog := X.prog) (w := X.w) (A := X.A) (E := X.xe) (s := s) (Q := EP X pins σ Q) F.slot_tuple_mul (show s.TypeIs (.ref l) "tuple" from ⟨_, look, rfl⟩) F.entry_tuple_mul (F.args_tuple_mul_2 _ _) (once_meets l its.toArray m dd sl tk) ⟨look, ⟨.ref l, H, I, rfl, q⟩⟩
  exact wpAny_binaryOp_repeat_ref (T := "tuple") (U := "int") (by decide) ⟨_, look, rfl⟩ ty noFill_tuple_mul F.fills_int_mul F.slot_int_rmul repeat_tuple F.slot_int_index.lookup
    (call_meets F.slot_int_rmul (ty s) F.entry_int_rmul (F.args_int_rmul_2 _ _) (int_rmul_tuple 1 tk l its.toArray m dd sl) ⟨look, rfl, ⟨_, look, rfl⟩, inner⟩)

theorem OG.or {f : Value → Value → Sem Value} {g g' : G2} (h : OG X f g) (h' : OG X f g') : OG X f (fun x y φ => g x y φ ∨ g' x y φ) := by
  obtain ⟨r, h1, h2⟩ := h
  obtain ⟨r', h1', h2'⟩ := h'
  refine ⟨_, OpR.or h1 h1', ?_⟩
  rintro M S H x y dx dy gd rx ry φ (q | q) Q hQ
  · exact .inl (h2 M S H x y dx dy gd rx ry φ q Q hQ)
  · exact .inr (h2' M S H x y dx dy gd rx ry φ q Q hQ)
def gRepT : G2 := fun x y φ => ∃ (xs : List PD) (k : Int), x = .dat (.tuple xs) ∧ y = di k ∧ xs ≠ [] ∧ 1 ≤ k ∧ k ≤ 1000 ∧ xs.length ≤ 1000 ∧ φ (.dat (.tuple (List.replicate k.toNat xs).flatten))
theorem o_repT : OG X (binaryOp .Mult) gRepT := by
  refine ⟨_, OpR.or op_repT op_once, ?_⟩
  rintro M S H x y _ _ gd rx ry φ ⟨xs, k, rfl, rfl, ne, h1, h2, h3, h⟩ Q hQ
  obtain ⟨a, us, rfl, sq, hs⟩ := dp_tup_inv rx
  by_cases hk : 2 ≤ k
  · refine .inl ⟨a, k, us, rfl, ry.int, sqt_le msk_le sq, fun e => ?_, hk, h2, by rw [dps_len hs]; exact h3, fun p hp => ?_⟩
    · subst e
      cases hs
      exact ne rfl
    · exact hQ _ _ _ (To.new hp) (rd_newT gd hp (dps_rep hs _)) h
  · have e : k = 1 := by omega
    subst e
    refine .inr ⟨a, us, rfl, ry.int, sqt_le msk_le sq, ?_⟩
    have e2 : (List.replicate (1 : Int).toNat xs).flatten = xs := by simp
    rw [e2] at h
    exact hQ _ _ H .refl rx h
def gAddS : G2 := fun x y φ => ∃ a b : Str, x = .dat (.str a) ∧ y = .dat (.str b) ∧ a.length + b.length ≤ sizeLine ∧ φ (.dat (.str (a ++ b)))
theorem o_addS : OG X (binaryOp .Add) gAddS := ⟨_, op_add_str, by
  rintro M S H x y _ _ gd rx ry φ ⟨a, b, rfl, rfl, hz, h⟩ Q hQ
  exact ⟨a, b, rx.str, ry.str, hz, hQ _ _ H .refl rd_str h⟩⟩
/-- + and * by what the operands are -/
@[simp] def gAdd : G2 := fun x y φ => match x, y with
  | .dat (.int i), .dat (.int j) => φ (di (i + j))
  | .dat (.tuple xs), .dat (.tuple ys) => xs.length + ys.length ≤ sizeLine ∧ φ (.dat (.tuple (xs ++ ys)))
  | .dat (.list xs), .dat (.list ys) => xs.length + ys.length ≤ sizeLine ∧ φ (.dat (.list (xs ++ ys)))
  | .dat (.str a), .dat (.str b) => a.length + b.length ≤ sizeLine ∧ φ (.dat (.str (a ++ b)))
  | _, _ => False
@[simp] def gMul : G2 := fun x y φ => match x, y with
  | .dat (.int i), .dat (.int j) => CMul i j ∧ φ (di (i * j))
  | .dat (.tuple xs), .dat (.int k) => xs ≠ [] ∧ 1 ≤ k ∧ k ≤ 1000 ∧ xs.length ≤ 1000 ∧ φ (.dat (.tuple (List.replicate k.toNat xs).flatten))
  | _, _ => False
theorem OG.imp {f : Value → Value → Sem Value} {g g' : G2} (h : OG X f g) (i : ∀ x y φ, g' x y φ → g x y φ) : OG X f g' := by
  obtain ⟨r, h1, h2⟩ := h
  exact ⟨r, h1, fun M S H x y dx dy gd rx ry φ q Q hQ => h2 M S H x y dx dy gd rx ry φ (i _ _ _ q) Q hQ⟩
theorem o_addA : OG X (binaryOp .Add) gAdd := ((o_add.or o_catT).or (o_catL.or o_addS)).imp fun x y φ h => by
  unfold gAdd at h
  split at h
  · exact .inl (.inl ⟨_, _, rfl, rfl, h⟩)
  · exact .inl (.inr ⟨_, _, rfl, rfl, h⟩)
  · exact .inr (.inl ⟨_, _, rfl, rfl, h⟩)
  · exact .inr (.inr ⟨_, _, rfl, rfl, h⟩)
  · exact h.elim
theorem o_mulA : OG X (binaryOp .Mult) gMul := (o_mul.or o_repT).imp fun x y φ h => by
  unfold gMul at h
  split at h
  · exact .inl ⟨_, _, rfl, rfl, h⟩
  · exact .inr ⟨_, _, rfl, rfl, h⟩
  · exact h.elim


/-! ### slices of tuples or lists -/
@[simp] def wSl (we : WE) (wl wh : WO) : WE := fun ρ φ => we ρ fun dv => wl ρ fun l => wh ρ fun u => match dv with
  | .dat (.tuple xs) => φ (.dat (.tuple (cutD xs l u)))
  | .dat (.list xs) => φ (.dat (.list (cutD xs l u)))
  | _ => False
theorem de_sl {e : Expr} {we : WE} {p2 : Pos} {lo hi : Option Expr} {wl wh : WO} (he : DE X e we) (hl : DO X lo wl) (hh : DO X hi wh) : DE X (.Subscript e (.Slice lo hi none p2) pos) (wSl we wl wh) := by
  obtain ⟨t, p, ev⟩ := he
  obtain ⟨tl, pl, el⟩ := hl
  obtain ⟨th, ph, eh⟩ := hh
  refine ⟨_, pe_slice (SlR.or sl_tupA sl_list) p pl ph, ?_⟩
  intro M S σ ρ H gd sv φ h Q hQ
  refine ev M S σ ρ H gd sv _ h _ fun v dv H1 a1 r h1 => ?_
  refine el M S σ ρ H1 (a1.gd gd) (sv.to gd a1) _ h1 _ fun l H2 a2 h2 => ?_
  refine eh M S σ ρ H2 (a2.gd (a1.gd gd)) ((sv.to gd a1).to (a1.gd gd) a2) _ h2 _ fun u H3 a3 h3 => ?_
  have g2 := a2.gd (a1.gd gd)
  have r3 := (r.to (a1.gd gd) a2).to g2 a3
  split at h3
  · obtain ⟨a, us, rfl, sq, hs⟩ := dp_tup_inv r3
    refine .inl ⟨a, us, rfl, sqt_le msk_le sq, fun e => ?_, fun _ p hp => ?_⟩
    · rename_i xs
      have e2 : cutD xs l u = xs := by
        have el := dps_len hs
        rw [el] at e
        unfold cutD
        rw [e.1, e.2]
        simp
      rw [e2] at h3
      exact hQ _ _ H3 ((a1.trans a2).trans a3) r3 h3
    · exact hQ _ _ _ (((a1.trans a2).trans a3).trans (To.new hp)) (rd_newT (a3.gd g2) hp (dps_cut hs l u)) h3
  · obtain ⟨a, us, rfl, sq, hs⟩ := dp_lst_inv r3
    exact .inr ⟨a, us, rfl, SqL.of (msk_le _ _ sq), fun p hp => hQ _ _ _ (((a1.trans a2).trans a3).trans (To.new hp)) (rd_newL (a3.gd g2) hp (dps_cut hs l u)) h3⟩
  · exact h3.elim

/-! ### a walk over a tuple or a list -/
def iSeq (K : PySem.W.Frag) (tl : TE) : TI := fun σ H R => tl σ H fun x H1 => ∃ a, x = .ref a ∧ (((∃ xs, SqL K H1 a xs) ∧ R (Itl K a) H1) ∨ ((∃ xs, SqT K H1 a xs) ∧ R (Itt K a) H1))
theorem pi_seq {tg l : Expr} {tl : TE} (hl : PE X l tl) : PI X tg l (iSeq X.K tl) := by
  constructor
  intro pins s σ H R I h
  refine thn (hl.run pins s σ H _ I h) ?_
  rintro v s1 ⟨x, H1, I1, r1, a, e, q⟩
  subst e
  cases r1
  have nw : H1 s1.heap.objs.size = none := I1.hok.fresh (Nat.le_refl _)
  have fp : ∀ b ∈ [s1.heap.objs.size], FpOk X pins H1 b := by
    intro b hb
    rw [List.mem_singleton.mp hb]
    exact I1.fpOk (Nat.le_refl _) nw
  rcases q with ⟨⟨xs, hq⟩, q⟩ | ⟨⟨xs, hq⟩, q⟩
  · obtain ⟨its, rv, p, hz⟩ := I1.list hq
    exact wpAny_pyIter_list p.isList ⟨s1.heap.objs.size, [s1.heap.objs.size], _, _, H1, rfl, I1.kept (t' := s1.toks) (fun b o e => Heap.get?_push_of_some _ e), turn_list a _, ⟨_, Heap.get?_push_size _ rfl, rfl, rfl⟩, fp, q⟩
  · obtain ⟨its, rv, p, hz⟩ := I1.tuple hq
    exact wpAny_pyIter_tuple (show s1.heap.IsTuple a its.toArray from p) ⟨s1.heap.objs.size, [s1.heap.objs.size], _, _, H1, rfl, I1.kept (t' := s1.toks) (fun b o e => Heap.get?_push_of_some _ e), turn_tuple a _, ⟨_, Heap.get?_push_size _ rfl, rfl, rfl⟩, fp, q⟩
@[simp] def itemsD : DV → Option (List PD)
  | .dat (.list xs) => some xs
  | .dat (.tuple xs) => some xs
  | _ => none
@[simp] def wiSeq (we : WE) : WI := fun ρ ψ => we ρ fun dv => ∃ xs, itemsD dv = some xs ∧ ψ xs
theorem itD_list {K : PySem.W.Frag} {M : List Addr} {S : So} {H1 : Hp} {a : Addr} {vs : List V} {xs : List PD} (sq : msk M H1 a = some (.lst vs)) (hs : DqAll K (msk M H1) vs xs) : ItD K M S (Itl K a) xs H1 := by
  have sqAt : ∀ {H' : Hp}, Kp M H1 H' → SqL K H' a vs := fun {H'} k => SqL.of (k a _ (of_msk sq).1 (of_msk sq).2)
  refine ⟨fun H' k i d e => ?_, fun H' k i d e x H2 y => ?_, fun H' k i hi => ?_⟩
  · obtain ⟨x, hx, _⟩ := dps_get' hs e
    exact ⟨vs, x, sqAt k, hx⟩
  · obtain ⟨rfl, y⟩ := y
    obtain ⟨d', e', r'⟩ := dps_get hs (y vs (sqAt k))
    rw [e] at e'
    cases e'
    exact ⟨Le.refl _, fun N _ hN => dp_le (kp_msk k hN) r'⟩
  · exact ⟨vs, sqAt k, by rw [dps_len hs]; exact hi⟩
theorem itD_tup {K : PySem.W.Frag} {M : List Addr} {S : So} {H1 : Hp} {a : Addr} {vs : List V} {xs : List PD} (sq : SqT K (msk M H1) a vs) (hs : DqAll K (msk M H1) vs xs) : ItD K M S (Itt K a) xs H1 := by
  have sqAt : ∀ {H' : Hp}, Kp M H1 H' → SqT K H' a vs := fun {H'} k => sqt_le (fun b o q => k b o (of_msk q).1 (of_msk q).2) sq
  refine ⟨fun H' k i d e => ?_, fun H' k i d e x H2 y => ?_, fun H' k i hi => ?_⟩
  · obtain ⟨x, hx, _⟩ := dps_get' hs e
    exact ⟨vs, x, sqAt k, hx⟩
  · obtain ⟨rfl, y⟩ := y
    obtain ⟨d', e', r'⟩ := dps_get hs (y vs (sqAt k))
    rw [e] at e'
    cases e'
    exact ⟨Le.refl _, fun N _ hN => dp_le (kp_msk k hN) r'⟩
  · exact ⟨vs, sqAt k, by rw [dps_len hs]; exact hi⟩
theorem di_seq {tg e : Expr} {we : WE} (he : DE X e we) : DI X tg e (wiSeq we) := by
  obtain ⟨t, p, ev⟩ := he
  refine ⟨_, pi_seq p, ?_⟩
  intro M S σ ρ H gd sv ψ h R hR
  refine ev M S σ ρ H gd sv _ h _ ?_
  rintro v dv H1 a1 r ⟨xs, e, h1⟩
  unfold itemsD at e
  split at e
  · cases e
    obtain ⟨a, vs, rfl, sq, hs⟩ := dp_lst_inv r
    exact ⟨a, rfl, .inl ⟨⟨vs, SqL.of (msk_le _ _ sq)⟩, hR _ xs H1 a1 h1 (itD_list sq hs)⟩⟩
  · cases e
    obtain ⟨a, vs, rfl, sq, hs⟩ := dp_tup_inv r
    exact ⟨a, rfl, .inr ⟨⟨vs, sqt_le msk_le sq⟩, hR _ xs H1 a1 h1 (itD_tup sq hs)⟩⟩
  · cases e
end

/-! ### comprehensions in short -/
section
variable {wt : WT} {we : WE} {ρ : DSt} {is : List Nat} {j : Nat} {φ : DV → Prop}
abbrev atX (ρ : DSt) (is : List Nat) (j : Nat) (d : PD) : DSt := (wipeD ρ is).set j (some (.dat d))
/-- what is kept by p, made f of -/
theorem lc_fm {xs : List PD} (p : PD → Bool) (f : PD → PD) (hl : xs.length ≤ sizeLine) (ht : ∀ d ∈ xs, ∀ ψ, ψ (p d) → wt (atX ρ is j d) ψ) (he : ∀ d ∈ xs, p d = true → ∀ ψ, ψ (.dat (f d)) → we (atX ρ is j d) ψ)
    (h : φ (.dat (.list ((xs.filter p).map f)))) : ∃ Inv : Nat → List PD → Prop, Inv 0 [] ∧
      (∀ (i : Nat) d acc, xs[i]? = some d → Inv i acc → gNm j d (wipeD ρ is) fun ρ2 => wt ρ2 fun b => if b = true then we ρ2 fun dv => ∃ y, dv = .dat y ∧ acc.length < sizeLine ∧ Inv (i + 1) (acc ++ [y]) else Inv (i + 1) acc) ∧
      ∀ acc, Inv xs.length acc → φ (.dat (.list acc)) := by
  refine ⟨fun i acc => acc = ((xs.take i).filter p).map f, by simp, fun i d acc hi ha => ?_, fun acc ha => ?_⟩
  · subst ha
    have hm : d ∈ xs := List.mem_of_getElem? hi
    have hlt : i < xs.length := (List.getElem?_eq_some_iff.mp hi).1
    have ts : xs.take (i + 1) = xs.take i ++ [d] := by
      rw [List.take_add_one, hi]
      rfl
    refine ht d hm _ ?_
    cases hp : p d with
    | true =>
      refine he d hm hp _ ⟨f d, rfl, ?_, ?_⟩
      · have h1 := List.length_filter_le p (xs.take i)
        rw [List.length_map]
        rw [List.length_take] at h1
        omega
      · show _ = _
        rw [ts, List.filter_append, List.map_append]
        simp [hp]
    | false =>
      show _ = _
      rw [ts, List.filter_append]
      simp [hp]
  · subst ha
    rw [List.take_length]
    exact h
theorem lc_map {xs : List PD} (f : PD → PD) (hl : xs.length ≤ sizeLine) (he : ∀ d ∈ xs, ∀ ψ, ψ (.dat (f d)) → we (atX ρ is j d) ψ) (h : φ (.dat (.list (xs.map f)))) : ∃ Inv : Nat → List PD → Prop, Inv 0 [] ∧
      (∀ (i : Nat) d acc, xs[i]? = some d → Inv i acc → gNm j d (wipeD ρ is) fun ρ2 => wYes ρ2 fun b => if b = true then we ρ2 fun dv => ∃ y, dv = .dat y ∧ acc.length < sizeLine ∧ Inv (i + 1) (acc ++ [y]) else Inv (i + 1) acc) ∧
      ∀ acc, Inv xs.length acc → φ (.dat (.list acc)) :=
  lc_fm (fun _ => true) f hl (fun _ _ _ q => q) (fun d hd _ => he d hd) (by rw [List.filter_eq_self.mpr (fun _ _ => rfl)]; exact h)
/-- each item some value that P tells -/
theorem lc_any {xs : List PD} (P : PD → PD → Prop) (hl : xs.length ≤ sizeLine) (he : ∀ d ∈ xs, ∀ ψ : DV → Prop, (∀ y, P d y → ψ (.dat y)) → we (atX ρ is j d) ψ)
    (h : ∀ ys : List PD, ys.length = xs.length → (∀ (i : Nat) d y, xs[i]? = some d → ys[i]? = some y → P d y) → φ (.dat (.list ys))) : ∃ Inv : Nat → List PD → Prop, Inv 0 [] ∧
      (∀ (i : Nat) d acc, xs[i]? = some d → Inv i acc → gNm j d (wipeD ρ is) fun ρ2 => wYes ρ2 fun b => if b = true then we ρ2 fun dv => ∃ y, dv = .dat y ∧ acc.length < sizeLine ∧ Inv (i + 1) (acc ++ [y]) else Inv (i + 1) acc) ∧
      ∀ acc, Inv xs.length acc → φ (.dat (.list acc)) := by
  refine ⟨fun i acc => i ≤ xs.length ∧ acc.length = i ∧ ∀ (k : Nat) d y, xs[k]? = some d → acc[k]? = some y → P d y, ⟨Nat.zero_le _, rfl, fun k d y _ e => by simp at e⟩, fun i d acc hi ha => ?_, fun acc ha => h acc ha.2.1 ha.2.2⟩
  obtain ⟨h1, h2, h3⟩ := ha
  have hlt : i < xs.length := (List.getElem?_eq_some_iff.mp hi).1
  refine he d (List.mem_of_getElem? hi) _ fun y hy => ⟨y, rfl, by omega, hlt, by simp [h2], fun k d' y' e1 e2 => ?_⟩
  by_cases hk : k < acc.length
  · rw [List.getElem?_append_left hk] at e2
    exact h3 k d' y' e1 e2
  · have : k = i := by
      have := (List.getElem?_eq_some_iff.mp e2).1
      simp at this
      omega
    subst this
    rw [hi] at e1
    cases e1
    rw [List.getElem?_append_right (by omega)] at e2
    simp [h2] at e2
    subst e2
    exact hy
/-- the same at the word itself: xs is what is walked -/
theorem wLc_fm {wi : WI} {xs : List PD} (p : PD → Bool) (f : PD → PD) (hi : ∀ ψ : List PD → Prop, ψ xs → wi ρ ψ) (hl : xs.length ≤ sizeLine) (ht : ∀ d ∈ xs, ∀ ψ : Bool → Prop, ψ (p d) → wt (atX ρ is j d) ψ)
    (he : ∀ d ∈ xs, p d = true → ∀ ψ : DV → Prop, ψ (.dat (f d)) → we (atX ρ is j d) ψ) (h : φ (.dat (.list ((xs.filter p).map f)))) : wLc wi (gNm j) wt we is ρ φ := hi _ (lc_fm p f hl ht he h)
theorem wLc_map {wi : WI} {xs : List PD} (f : PD → PD) (hi : ∀ ψ : List PD → Prop, ψ xs → wi ρ ψ) (hl : xs.length ≤ sizeLine) (he : ∀ d ∈ xs, ∀ ψ : DV → Prop, ψ (.dat (f d)) → we (atX ρ is j d) ψ) (h : φ (.dat (.list (xs.map f)))) :
    wLc wi (gNm j) wYes we is ρ φ := hi _ (lc_map f hl he h)
theorem wLc_any {wi : WI} {xs : List PD} (P : PD → PD → Prop) (hi : ∀ ψ : List PD → Prop, ψ xs → wi ρ ψ) (hl : xs.length ≤ sizeLine) (he : ∀ d ∈ xs, ∀ ψ : DV → Prop, (∀ y, P d y → ψ (.dat y)) → we (atX ρ is j d) ψ)
    (h : ∀ ys : List PD, ys.length = xs.length → (∀ (i : Nat) d y, xs[i]? = some d → ys[i]? = some y → P d y) → φ (.dat (.list ys))) : wLc wi (gNm j) wYes we is ρ φ := hi _ (lc_any P hl he h)
/-- over range(n) -/
theorem rng_mem {n : Nat} {d : PD} (h : d ∈ rngD 0 n) : ∃ i : Nat, i < n ∧ d = .int (i : Nat) := by
  obtain ⟨i, hi, e⟩ := List.mem_map.mp h
  exact ⟨i, List.mem_range.mp hi, by rw [← e, Int.zero_add]⟩
theorem rng_len {n : Nat} : (rngD 0 n).length = n := by simp [rngD]
def ofInt : PD → Nat
  | .int i => i.toNat
  | _ => 0
theorem wLc_rfm {wi : WI} {n : Nat} (p : Nat → Bool) (f : Nat → PD) (hi : ∀ ψ : List PD → Prop, ψ (rngD 0 n) → wi ρ ψ) (hl : n ≤ sizeLine) (ht : ∀ i < n, ∀ ψ : Bool → Prop, ψ (p i) → wt (atX ρ is j (.int (i : Nat))) ψ)
    (he : ∀ i < n, p i = true → ∀ ψ : DV → Prop, ψ (.dat (f i)) → we (atX ρ is j (.int (i : Nat))) ψ) (h : φ (.dat (.list (((List.range n).filter p).map f)))) : wLc wi (gNm j) wt we is ρ φ := by
  refine wLc_fm (xs := rngD 0 n) (fun d => p (ofInt d)) (fun d => f (ofInt d)) hi (by rw [rng_len]; exact hl) (fun d hd ψ q => ?_) (fun d hd hp ψ q => ?_) ?_
  · obtain ⟨i, hi, rfl⟩ := rng_mem hd
    exact ht i hi ψ (by simpa [ofInt] using q)
  · obtain ⟨i, hi, rfl⟩ := rng_mem hd
    exact he i hi (by simpa [ofInt] using hp) ψ (by simpa [ofInt] using q)
  · have e : ((rngD 0 n).filter fun d => p (ofInt d)).map (fun d => f (ofInt d)) = ((List.range n).filter p).map f := by
      unfold rngD
      rw [List.filter_map, List.map_map]
      congr 1
      · funext i
        simp [ofInt]
      · congr 1
        funext i
        simp [ofInt]
    rw [e]
    exact h
theorem wLc_rmap {wi : WI} {n : Nat} (f : Nat → PD) (hi : ∀ ψ : List PD → Prop, ψ (rngD 0 n) → wi ρ ψ) (hl : n ≤ sizeLine) (he : ∀ i < n, ∀ ψ : DV → Prop, ψ (.dat (f i)) → we (atX ρ is j (.int (i : Nat))) ψ)
    (h : φ (.dat (.list ((List.range n).map f)))) : wLc wi (gNm j) wYes we is ρ φ :=
  wLc_rfm (fun _ => true) f hi hl (fun _ _ _ q => q) (fun i hi _ => he i hi) (by rw [List.filter_eq_self.mpr (fun _ _ => rfl)]; exact h)
theorem wLc_rany {wi : WI} {n : Nat} (P : Nat → PD → Prop) (hi : ∀ ψ : List PD → Prop, ψ (rngD 0 n) → wi ρ ψ) (hl : n ≤ sizeLine) (he : ∀ i < n, ∀ ψ : DV → Prop, (∀ y, P i y → ψ (.dat y)) → we (atX ρ is j (.int (i : Nat))) ψ)
    (h : ∀ ys : List PD, ys.length = n → (∀ (i : Nat) y, ys[i]? = some y → P i y) → φ (.dat (.list ys))) : wLc wi (gNm j) wYes we is ρ φ := by
  refine wLc_any (xs := rngD 0 n) (fun d y => P (ofInt d) y) hi (by rw [rng_len]; exact hl) (fun d hd ψ q => ?_) fun ys hy hP => h ys (by rw [hy, rng_len]) fun i y e => ?_
  · obtain ⟨i, hi, rfl⟩ := rng_mem hd
    exact he i hi ψ fun y hy => q y (by simpa [ofInt] using hy)
  · have hlt : i < n := by
      have := (List.getElem?_eq_some_iff.mp e).1
      rw [hy, rng_len] at this
      exact this
    have q := hP i (.int (0 + (i : Nat))) y (by unfold rngD; rw [List.getElem?_map, List.getElem?_range hlt]; rfl) e
    simpa [ofInt] using q
end
end Vf

set_option Elab.async false
set_option linter.all false
set_option maxRecDepth 100000
set_option maxHeartbeats 4000000
/-! Vf7: the law's source of draws; tuple(range(n)); the law's own body -/
namespace Vf
open PySem PySem.Spec PyProof.Rows L2

/-- as okG, of a def that nothing leaves -/
theorem okG0 {P : Program} {w : World} {K : PySem.W.Frag} {mg : Str → Option Value} {base : Heap} {x qual : Str} {st : Stmt} {f : Addr} {fd : FuncData} {N ps : List Str} {k : Nat} {sp : Sp} (F : Fun K x qual st f fd) (S : FnScope N ps (defScope st))
    (ar : ∀ vs H Q E, sp vs H Q E → vs.length = ps.length)
    (body : ∀ (cdv : Value) (A : Around) (outer : List Env) (s : Shared) (H : Hp) (vs : List V) (Q : VK) (E : XK),
      (A.deeper (envOfC qual (defScope st) s.heap.objs.size f cdv)).guards = some [] → Room k (A.deeper (envOfC qual (defScope st) s.heap.objs.size f cdv)) → sp vs H Q E →
        ∃ t, PSs (cxOf CX0 P w K mg base N qual (defScope st) f cdv A outer s H E).nox (defBody st) t ∧ t { nx := fun _ H' => Q .non H', rt := Q } (L2.start N vs) H) :
    FnG P w K mg base CX0 (k + 1) f fd ps sp :=
  okG F S ar fun cdv A outer s H vs Q E grd room want => by
    obtain ⟨t, ht, hq⟩ := body cdv A outer s H vs Q E grd room want
    exact ⟨t, ht.nox, hq⟩

/-! ### tuple(range(n)), list(range(n)) -/
theorem dps_rg (a b : Int) {K : PySem.W.Frag} {H : Hp} : DqAll K H (rgV a b) (rngD a (b - a).toNat) := by
  have key : ∀ l : List Nat, DqAll K H (l.map fun i => V.int (a + (i : Nat))) (l.map fun i => PyData.int (a + (i : Nat))) := fun l => by
    induction l with
    | nil => exact .nil
    | cons x l ih => exact .cons (.int _) ih
  exact key _
section
variable {X : Cx} {a : Expr} {wa : WE} {p p' pos pos' : Pos}
@[simp] def wRgT (wa : WE) : WE := fun ρ φ => wa ρ fun dv => ∃ n : Int, dv = di n ∧ -(2 ^ 62) ≤ n ∧ n ≤ 16777216 ∧ φ (.dat (.tuple (rngD 0 n.toNat)))
@[simp] def wRgL (wa : WE) : WE := fun ρ φ => wa ρ fun dv => ∃ n : Int, dv = di n ∧ -(2 ^ 62) ≤ n ∧ n ≤ 16777216 ∧ φ (.dat (.list (rngD 0 n.toNat)))
theorem de_rgT (ha : DE X a wa) (hg : Gl X "tuple") (hm : X.mg "tuple" = none) (hg2 : Gl X "range") (hm2 : X.mg "range" = none) (hc : X.calm = true := by rfl) (na : starEach [a] X.env = (false, eval a X.env) :: starEach [] X.env := by rfl)
    (nb : starEach [.Call (.Name "range" p') [a] [] pos'] X.env = (false, eval (.Call (.Name "range" p') [a] [] pos') X.env) :: starEach [] X.env := by rfl) :
    DE X (.Call (.Name "tuple" p) [.Call (.Name "range" p') [a] [] pos'] [] pos) (wRgT wa) := by
  obtain ⟨t, pt, ev⟩ := ha
  refine ⟨_, pe_tupRg hc hg hm (prg_1 hg2 hm2 pt na) nb, ?_⟩
  intro M S σ ρ H gd sv φ h Q hQ
  refine ev M S σ ρ H gd sv _ h _ ?_
  rintro v _ H1 a1 r ⟨n, rfl, h1, h2, h3⟩
  refine ⟨n, r.int, ⟨by omega, by omega, by omega, by omega, by omega⟩, fun q hq => ?_⟩
  have e : (n - 0).toNat = n.toNat := by rw [Int.sub_zero]
  have d := dps_rg (K := X.K) (H := msk M H1) 0 n
  rw [e] at d
  exact hQ _ _ _ (a1.trans (To.new hq)) (rd_newT (a1.gd gd) hq d) h3
theorem de_rgL (ha : DE X a wa) (hg : Gl X "list") (hm : X.mg "list" = none) (hg2 : Gl X "range") (hm2 : X.mg "range" = none) (hc : X.calm = true := by rfl) (na : starEach [a] X.env = (false, eval a X.env) :: starEach [] X.env := by rfl)
    (nb : starEach [.Call (.Name "range" p') [a] [] pos'] X.env = (false, eval (.Call (.Name "range" p') [a] [] pos') X.env) :: starEach [] X.env := by rfl) :
    DE X (.Call (.Name "list" p) [.Call (.Name "range" p') [a] [] pos'] [] pos) (wRgL wa) := by
  obtain ⟨t, pt, ev⟩ := ha
  refine ⟨_, pe_listRg hc hg hm (prg_1 hg2 hm2 pt na) nb, ?_⟩
  intro M S σ ρ H gd sv φ h Q hQ
  refine ev M S σ ρ H gd sv _ h _ ?_
  rintro v _ H1 a1 r ⟨n, rfl, h1, h2, h3⟩
  refine ⟨n, r.int, ⟨by omega, by omega, by omega, by omega, by omega⟩, fun q hq => ?_⟩
  have e : (n - 0).toNat = n.toNat := by rw [Int.sub_zero]
  have d := dps_rg (K := X.K) (H := msk M H1) 0 n
  rw [e] at d
  exact hQ _ _ _ (a1.trans (To.new hq)) (rd_newL (a1.gd gd) hq d) h3
end

/-- while, by a word from which the rest goes on at any time -/
theorem while_q {c : TT} {tb : TS} {D : Ends} {σ : L2.St} {H : Hp} (Pv : L2.St → Hp → Prop) (mu : L2.St → Hp → Nat) (h0 : Pv σ H) (hx : ∀ σ H, Pv σ H → D.nx σ H)
    (hs : (∀ σ H, Pv σ H → D.nx σ H) → ∀ σ H, Pv σ H → c σ H fun b H1 => if b = true then ∃ N : L2.St → Hp → Prop, (∀ σ' H', N σ' H' → ∃ m', m' < mu σ H ∧ m' = mu σ' H' ∧ Pv σ' H') ∧ tb { D with nx := N, ct := N, bk := D.nx } σ H1 else D.nx σ H1) : tWhile c tb D σ H := by
  refine ⟨fun m σ H => m = mu σ H ∧ Pv σ H, ⟨_, rfl, h0⟩, ?_⟩
  rintro m σ H ⟨rfl, p⟩
  exact hs hx σ H p

/-! ### the source -/
abbrev kC : Key := .inr "cells"
abbrev kL : Key := .inr "left"
abbrev kM : Key := .inr "mixed"
abbrev kT : Key := .inr "turn"
def srcKvs (c : Addr) (l m t : Int) : List (Key × V) := [(kC, .ref c), (kL, .int l), (kM, .int m), (kT, .int t)]
theorem sCL : ¬ (Str.ofString "cells" = Str.ofString "left") := by decide +kernel
theorem sCM : ¬ (Str.ofString "cells" = Str.ofString "mixed") := by decide +kernel
theorem sCT : ¬ (Str.ofString "cells" = Str.ofString "turn") := by decide +kernel
theorem sLC : ¬ (Str.ofString "left" = Str.ofString "cells") := by decide +kernel
theorem sLM : ¬ (Str.ofString "left" = Str.ofString "mixed") := by decide +kernel
theorem sLT : ¬ (Str.ofString "left" = Str.ofString "turn") := by decide +kernel
theorem sMC : ¬ (Str.ofString "mixed" = Str.ofString "cells") := by decide +kernel
theorem sML : ¬ (Str.ofString "mixed" = Str.ofString "left") := by decide +kernel
theorem sMT : ¬ (Str.ofString "mixed" = Str.ofString "turn") := by decide +kernel
theorem sTC : ¬ (Str.ofString "turn" = Str.ofString "cells") := by decide +kernel
theorem sTL : ¬ (Str.ofString "turn" = Str.ofString "left") := by decide +kernel
theorem sTM : ¬ (Str.ofString "turn" = Str.ofString "mixed") := by decide +kernel
theorem nCL : ¬ (kC = kL) := fun h => sCL (Sum.inr.inj h)
theorem nCM : ¬ (kC = kM) := fun h => sCM (Sum.inr.inj h)
theorem nCT : ¬ (kC = kT) := fun h => sCT (Sum.inr.inj h)
theorem nLM : ¬ (kL = kM) := fun h => sLM (Sum.inr.inj h)
theorem nLT : ¬ (kL = kT) := fun h => sLT (Sum.inr.inj h)
theorem nMT : ¬ (kM = kT) := fun h => sMT (Sum.inr.inj h)
section
variable {c : Addr} {l m t x : Int}
theorem valC : valV (srcKvs c l m t) kC = some (.ref c) := valV_pos rfl
theorem valL : valV (srcKvs c l m t) kL = some (.int l) := by
  unfold srcKvs
  rw [valV_neg nCL, valV_pos rfl]
theorem valM : valV (srcKvs c l m t) kM = some (.int m) := by
  unfold srcKvs
  rw [valV_neg nCM, valV_neg nLM, valV_pos rfl]
theorem valT : valV (srcKvs c l m t) kT = some (.int t) := by
  unfold srcKvs
  rw [valV_neg nCT, valV_neg nLT, valV_neg nMT, valV_pos rfl]
theorem putL : putK (srcKvs c l m t) kL (.int x) = srcKvs c x m t := by
  simp [srcKvs, putK, sCL, sCM, sCT, sLC, sLM, sLT, sMC, sML, sMT, sTC, sTL, sTM]
theorem putM : putK (srcKvs c l m t) kM (.int x) = srcKvs c l x t := by
  simp [srcKvs, putK, sCL, sCM, sCT, sLC, sLM, sLT, sMC, sML, sMT, sTC, sTL, sTM]
theorem putT : putK (srcKvs c l m t) kT (.int x) = srcKvs c l m x := by
  simp [srcKvs, putK, sCL, sCM, sCT, sLC, sLM, sLT, sMC, sML, sMT, sTC, sTL, sTM]
theorem srcLen : (srcKvs c l m t).length < sizeLine := by show 4 < sizeLine; decide
theorem src_merge : mergeK [] [(kC, .ref c), (kL, .int l), (kM, .int m), (kT, .int t)] = srcKvs c l m t := by
  simp [srcKvs, mergeK, putK, sCL, sCM, sCT, sLC, sLM, sLT, sMC, sML, sMT, sTC, sTL, sTM]
end
/-- what _law_source makes -/
def spSrc (K : PySem.W.Frag) : Sp := fun vs H Q _ => ∃ (a : Addr) (ns : List Int), vs = [.ref a] ∧ Scr K H a ns ∧ ns.length ≤ 1000 ∧ ∀ s c H', Le H H' → H s = none → H c = none → Src s c H' → Q (.ref s) H'
/-- what _law_pick does -/
def fs__law_pick : FS := fun ds φ => ∃ many : Int, ds = [.src, di many] ∧ many < 1000000000 ∧ ∀ r : Nat, (r : Int) < many ∨ r = 0 → φ (di (r : Int))
def sp_law (K : PySem.W.Frag) : Sp := fun vs H Q _ => ∃ (a : Addr) (ns : List Int), vs = [.ref a] ∧ Scr K H a ns ∧ ns.length ≤ 63 ∧ ∀ H', Q (.bl true) H'
theorem start_law {K : PySem.W.Frag} {H : Hp} {a : Addr} {ns : List Int} (h : ns.length ≤ 63) (s : Scr K H a ns) : sp_law K [.ref a] H (fun v _ => v = .bl true) fun _ _ _ => False := ⟨a, ns, rfl, s, h, fun _ => rfl⟩
/-- source = _law_source(script), then the law's body -/
theorem law_body {X : Cx} {st0 : Stmt} {rest : List Stmt} {w : WS} {n : Nat} {E : XK} {a : Addr} {ns : List Int} {H : Hp} {Q : VK} (h0 : PS X st0 (tAsg (tCall (spSrc X.K) [] E (tCons (tVar 0) tNil)) (gName 1))) (h1 : DSs X rest w)
    (hn : 2 ≤ n) (scr : Scr X.K H a ns) (hl : ns.length ≤ 1000) (hw : w { nx := fun _ => False, rt := fun dv => dv = db true } ((List.replicate n none).set 1 (some .src))) (k : ∀ H', Q (.bl true) H') :
    ∃ t, PSs X (st0 :: rest) t ∧ t { nx := fun _ H' => Q .non H', rt := Q } (some (V.ref a) :: List.replicate (n - 1) none) H := by
  obtain ⟨t, p, ev⟩ := h1
  refine ⟨_, pss_cons h0 p, ?_⟩
  refine ⟨_, rfl, ⟨a, ns, rfl, scr, hl, fun s c H' le hs hc src => ?_⟩⟩
  show t _ _ H'
  have inS : ∀ x, x ∈ Fo (some (s, c)) ↔ x ∈ [s, c] := fun x => Iff.rfl
  have hasS : ∀ x ∈ [s, c], H' x ≠ none := fun x hx => by
    obtain ⟨_, l, m, t, ms, e1, e2⟩ := src
    rcases List.mem_cons.mp hx with z | z
    · rw [z, e1]; intro y; cases y
    · rw [List.mem_singleton.mp z, e2]; intro y; cases y
  have frz : ∀ {x o}, (if x ∈ [s, c] then none else H' x) = some o → H' x = some o := fun {x o} e => by
    by_cases z : x ∈ [s, c]
    · exact absurd ((if_pos z).symm.trans e) (fun y => nomatch y)
    · exact (if_neg z).symm.trans e
  have len : ((some (V.ref a) :: List.replicate (n - 1) none).set 1 (some (V.ref s))).length = ((List.replicate n none).set 1 (some DV.src)).length := by
    simp
    omega
  have slots : SV X.K [s, c] (some (s, c)) H' ((some (V.ref a) :: List.replicate (n - 1) none).set 1 (some (V.ref s))) ((List.replicate n none).set 1 (some DV.src)) := by
    refine ⟨len, fun i dv e => ?_⟩
    by_cases hi : 1 = i
    · subst hi
      rw [List.getElem?_set_self (by simp; omega)] at e
      cases e
      refine ⟨.ref s, ?_, s, c, rfl, rfl⟩
      rw [List.getElem?_set_self (by simp; omega)]
    · rw [List.getElem?_set_ne hi, List.getElem?_replicate] at e
      split at e <;> cases e
  have sd : SD X.K [s, c] (some (s, c)) (fun x => if x ∈ [s, c] then none else H' x) [] ((some (V.ref a) :: List.replicate (n - 1) none).set 1 (some (V.ref s))) ((List.replicate n none).set 1 (some DV.src)) H' :=
    { gd := ⟨hasS, fun x h => h, src⟩, fa := fun x h => h, fr := fun x o e => frz e, frF := fun x h => if_pos h, own := fun p h => (nomatch h), sv := slots, apart := fun i j xs ys p _ _ _ _ h => (nomatch h) }
  refine ev [s, c] (some (s, c)) _ [] _ _ H' sd { nx := fun _ => False, rt := fun dv => dv = db true } _ ⟨fun O σ ρ H2 _ h => h.elim, fun v dv H2 _ _ _ r h => ?_, fun O σ ρ H2 _ h => h.elim, fun O σ ρ H2 _ h => h.elim⟩ hw
  subst h
  have := r.bl
  subst this
  exact k H2
end Vf

set_option Elab.async false
set_option linter.all false
set_option maxRecDepth 100000
set_option maxHeartbeats 4000000
/-! Vf8: data that are tuples of naturals: words on walks, items, equality, what can be shown -/
namespace Vf
open PySem PySem.Spec PyProof.Rows L2

abbrev nI (i : Nat) : PD := .int (i : Int)
abbrev tN (l : List Nat) : PD := .tuple (l.map nI)
theorem rng_eq (n : Nat) : rngD 0 n = (List.range n).map nI := by
  unfold rngD
  congr 1
  funext i
  rw [Int.zero_add]
section
variable {wt : WT} {we : WE} {ρ : DSt} {is : List Nat} {j : Nat} {φ : DV → Prop}
theorem wLc_nfm {wi : WI} {l : List Nat} (p : Nat → Bool) (f : Nat → PD) (hi : ∀ ψ : List PD → Prop, ψ (l.map nI) → wi ρ ψ) (hl : l.length ≤ sizeLine) (ht : ∀ i ∈ l, ∀ ψ : Bool → Prop, ψ (p i) → wt (atX ρ is j (nI i)) ψ)
    (he : ∀ i ∈ l, p i = true → ∀ ψ : DV → Prop, ψ (.dat (f i)) → we (atX ρ is j (nI i)) ψ) (h : φ (.dat (.list ((l.filter p).map f)))) : wLc wi (gNm j) wt we is ρ φ := by
  refine wLc_fm (xs := l.map nI) (fun d => p (ofInt d)) (fun d => f (ofInt d)) hi (by rw [List.length_map]; exact hl) (fun d hd ψ q => ?_) (fun d hd hp ψ q => ?_) ?_
  · obtain ⟨i, hi, rfl⟩ := List.mem_map.mp hd
    exact ht i hi ψ (by simpa [ofInt] using q)
  · obtain ⟨i, hi, rfl⟩ := List.mem_map.mp hd
    exact he i hi (by simpa [ofInt] using hp) ψ (by simpa [ofInt] using q)
  · have e : ((l.map nI).filter fun d => p (ofInt d)).map (fun d => f (ofInt d)) = (l.filter p).map f := by
      rw [List.filter_map, List.map_map]
      congr 1
    rw [e]
    exact h
theorem wLc_nmap {wi : WI} {l : List Nat} (f : Nat → PD) (hi : ∀ ψ : List PD → Prop, ψ (l.map nI) → wi ρ ψ) (hl : l.length ≤ sizeLine) (he : ∀ i ∈ l, ∀ ψ : DV → Prop, ψ (.dat (f i)) → we (atX ρ is j (nI i)) ψ)
    (h : φ (.dat (.list (l.map f)))) : wLc wi (gNm j) wYes we is ρ φ :=
  wLc_nfm (fun _ => true) f hi hl (fun _ _ _ q => q) (fun i hi _ => he i hi) (by rw [List.filter_eq_self.mpr (fun _ _ => rfl)]; exact h)
/-- each item a natural that P tells -/
theorem wLc_nany {wi : WI} {l : List Nat} (P : Nat → Nat → Prop) (hi : ∀ ψ : List PD → Prop, ψ (l.map nI) → wi ρ ψ) (hl : l.length ≤ sizeLine) (he : ∀ i ∈ l, ∀ ψ : DV → Prop, (∀ y, P i y → ψ (.dat (nI y))) → we (atX ρ is j (nI i)) ψ)
    (h : ∀ ys : List Nat, ys.length = l.length → (∀ (i : Nat) (x y : Nat), l[i]? = some x → ys[i]? = some y → P x y) → φ (.dat (.list (ys.map nI)))) : wLc wi (gNm j) wYes we is ρ φ := by
  refine wLc_any (xs := l.map nI) (fun d y => ∃ x : Nat, y = nI x ∧ P (ofInt d) x) hi (by rw [List.length_map]; exact hl) (fun d hd ψ q => ?_) fun ys hy hP => ?_
  · obtain ⟨i, hi, rfl⟩ := List.mem_map.mp hd
    exact he i hi ψ fun y hy => q (nI y) ⟨y, rfl, by simpa [ofInt] using hy⟩
  · have len : ys.length = l.length := by rw [hy, List.length_map]
    have all : ∀ (i : Nat) y, ys[i]? = some y → ∃ x z : Nat, l[i]? = some x ∧ y = nI z ∧ P x z := fun i y e => by
      have hlt : i < l.length := by
        have := (List.getElem?_eq_some_iff.mp e).1
        omega
      have hx : l[i]? = some l[i] := by simp [hlt]
      obtain ⟨z, e1, e2⟩ := hP i (nI l[i]) y (by rw [List.getElem?_map, hx]; rfl) e
      exact ⟨l[i], z, hx, e1, by simpa [ofInt] using e2⟩
    have ye : ys = (ys.map ofInt).map nI := by
      rw [List.map_map]
      refine (List.map_id _).symm.trans (List.map_congr_left fun y hy => ?_)
      obtain ⟨i, hi, e⟩ := List.mem_iff_getElem.mp hy
      obtain ⟨x, z, _, e1, _⟩ := all i y (by rw [← e]; simp [hi])
      subst e1
      simp [ofInt]
    rw [ye]
    refine h (ys.map ofInt) (by rw [List.length_map, len]) fun i x y e1 e2 => ?_
    rw [List.getElem?_map] at e2
    cases q : ys[i]? with
    | none => rw [q] at e2; cases e2
    | some d =>
      rw [q] at e2
      cases e2
      obtain ⟨x', z, e3, e4, e5⟩ := all i d q
      rw [e1] at e3
      cases e3
      subst e4
      simpa [ofInt] using e5
end
/-- items of maps at a natural -/
theorem ixN_nat' {n j : Nat} (h : j < n) : ixN n (j : Int) = some j := by
  unfold ixN
  rw [if_pos (by omega), if_pos (by omega)]
  simp
theorem atD_map {α : Type} {f : α → PD} {l : List α} {j : Nat} {x : α} (h : l[j]? = some x) : atD (l.map f) (j : Int) = some (f x) := by
  have hlt := (List.getElem?_eq_some_iff.mp h).1
  unfold atD
  rw [List.length_map, ixN_nat' hlt]
  show (l.map f)[j]? = _
  rw [List.getElem?_map, h]
  rfl
theorem atD_N {l : List Nat} {j : Nat} (h : j < l.length) : atD (l.map nI) (j : Int) = some (nI (l.getD j 0)) := by
  refine (atD_map (f := nI) (x := l[j]) (by simp [h])).trans ?_
  simp [List.getD_eq_getElem?_getD, h]
/-- == of tuples of naturals -/
theorem eqvAll_N : ∀ a b : List Nat, PyData.eqvAll (a.map nI) (b.map nI) = decide (a = b)
  | [], [] => by simp [PyData.eqvAll]
  | x :: a, y :: b => by
    rw [List.map_cons, List.map_cons]
    simp only [PyData.eqvAll, PyData.eqv, eqvAll_N a b]
    by_cases h : x = y
    · subst h
      simp
    · have : ¬ ((x : Int) = (y : Int)) := by omega
      simp [h, this]
  | [], y :: b => by simp [PyData.eqvAll]
  | x :: a, [] => by simp [PyData.eqvAll]
theorem eqv_tN (a b : List Nat) : PyData.eqv (tN a) (tN b) = decide (a = b) := by
  simp only [PyData.eqv]
  exact eqvAll_N a b
theorem eqv_lN (a b : List Nat) : PyData.eqv (.list (a.map nI)) (.list (b.map nI)) = decide (a = b) := by
  simp only [PyData.eqv]
  exact eqvAll_N a b
theorem eqv_int (a b : Int) : PyData.eqv (.int a) (.int b) = decide (a = b) := by
  simp only [PyData.eqv]
  by_cases h : a = b
  · simp [h]
  · simp [h]
theorem eqv_nI (a b : Nat) : PyData.eqv (nI a) (nI b) = decide (a = b) := by
  rw [eqv_int]
  by_cases h : a = b
  · simp [h]
  · have : ¬ ((a : Int) = (b : Int)) := by omega
    simp [h, this]
theorem eqv_bool (a b : Bool) : PyData.eqv (.bool a) (.bool b) = decide (a = b) := by
  simp only [PyData.eqv]
  cases a <;> cases b <;> rfl
theorem eqv_str (a b : Str) : PyData.eqv (.str a) (.str b) = decide (a = b) := by
  simp only [PyData.eqv]
  by_cases h : a = b
  · simp [h]
  · simp [h]
theorem eqv_same {B n b : Nat} {d : PD} (h : Fine B n b d) : PyData.eqv d d = true := PySem.SeqAt.eqv_refl d h.lay
theorem shaped_str_shown (d : PD) : True := trivial
/-- naturals below 10^12 -/
theorem fine_nI {i : Nat} (h : i < 10 ^ 12) : Fine 12 0 0 (nI i) := fine_int (by simpa using h)
theorem fine_tN {l : List Nat} (h : ∀ x ∈ l, x < 10 ^ 12) : Fine 12 1 l.length (tN l) := by
  have q := fine_tup (B := 12) (n := 0) (b := 0) (ds := l.map nI) fun x hx => by
    obtain ⟨i, hi, rfl⟩ := List.mem_map.mp hx
    exact fine_nI (h i hi)
  simpa using q
theorem fine_lN {l : List Nat} (h : ∀ x ∈ l, x < 10 ^ 12) : Fine 12 1 l.length (.list (l.map nI)) := by
  have q := fine_lst (B := 12) (n := 0) (b := 0) (ds := l.map nI) fun x hx => by
    obtain ⟨i, hi, rfl⟩ := List.mem_map.mp hx
    exact fine_nI (h i hi)
  simpa using q
/-- two rising lists with the same members -/
theorem rising_same : ∀ {a b : List Nat}, a.Pairwise (· < ·) → b.Pairwise (· < ·) → (∀ x, x ∈ a ↔ x ∈ b) → a = b
  | [], [], _, _, _ => rfl
  | [], y :: b, _, _, h => absurd ((h y).mpr List.mem_cons_self) List.not_mem_nil
  | x :: a, [], _, _, h => absurd ((h x).mp List.mem_cons_self) List.not_mem_nil
  | x :: a, y :: b, ha, hb, h => by
    rw [List.pairwise_cons] at ha hb
    have e : x = y := by
      rcases List.mem_cons.mp ((h x).mp List.mem_cons_self) with q | q
      · exact q
      · rcases List.mem_cons.mp ((h y).mpr List.mem_cons_self) with r | r
        · exact r.symm
        · have := hb.1 x q
          have := ha.1 y r
          omega
    subst e
    rw [rising_same ha.2 hb.2 fun z => ?_]
    constructor
    · intro hz
      rcases List.mem_cons.mp ((h z).mp (List.mem_cons_of_mem _ hz)) with q | q
      · have := ha.1 z hz
        omega
      · exact q
    · intro hz
      rcases List.mem_cons.mp ((h z).mpr (List.mem_cons_of_mem _ hz)) with q | q
      · have := hb.1 z hz
        omega
      · exact q
theorem range_rising (n : Nat) : (List.range n).Pairwise (· < ·) := List.pairwise_lt_range
end Vf
namespace Vf
open PySem PySem.Spec PyProof.Rows L2
theorem rising_sameZ : ∀ {a b : List Int}, a.Pairwise (· < ·) → b.Pairwise (· < ·) → (∀ x, x ∈ a ↔ x ∈ b) → a = b
  | [], [], _, _, _ => rfl
  | [], y :: b, _, _, h => absurd ((h y).mpr List.mem_cons_self) List.not_mem_nil
  | x :: a, [], _, _, h => absurd ((h x).mp List.mem_cons_self) List.not_mem_nil
  | x :: a, y :: b, ha, hb, h => by
    rw [List.pairwise_cons] at ha hb
    have e : x = y := by
      rcases List.mem_cons.mp ((h x).mp List.mem_cons_self) with q | q
      · exact q
      · rcases List.mem_cons.mp ((h y).mpr List.mem_cons_self) with r | r
        · exact r.symm
        · have := hb.1 x q
          have := ha.1 y r
          omega
    subst e
    rw [rising_sameZ ha.2 hb.2 fun z => ?_]
    constructor
    · intro hz
      rcases List.mem_cons.mp ((h z).mp (List.mem_cons_of_mem _ hz)) with q | q
      · have := ha.1 z hz
        omega
      · exact q
    · intro hz
      rcases List.mem_cons.mp ((h z).mpr (List.mem_cons_of_mem _ hz)) with q | q
      · have := hb.1 z hz
        omega
      · exact q
/-- the members of a below n, rising -/
def reachN (n : Nat) (a : List Nat) : List Nat := (List.range n).filter fun q => decide (q ∈ a)
theorem reach_of {n : Nat} {a : List Nat} (h : ∀ x ∈ a, x < n) {ns : List Int} (hp : ns.Pairwise (· < ·)) (hm : ∀ k, k ∈ ns ↔ k ∈ a.map (fun i : Nat => (i : Int))) : ns = (reachN n a).map fun i : Nat => (i : Int) := by
  refine rising_sameZ hp ?_ fun x => ?_
  · rw [List.pairwise_map]
    refine ((range_rising n).filter _).imp ?_
    intro x y hxy
    omega
  · rw [hm x, List.mem_map, List.mem_map]
    constructor
    · rintro ⟨i, hi, rfl⟩
      exact ⟨i, List.mem_filter.mpr ⟨List.mem_range.mpr (h i hi), decide_eq_true hi⟩, rfl⟩
    · rintro ⟨i, hi, rfl⟩
      exact ⟨i, of_decide_eq_true (List.mem_filter.mp hi).2, rfl⟩
theorem map_nI (l : List Nat) : (l.map fun i : Nat => (i : Int)).map PyData.int = l.map nI := by
  rw [List.map_map]
  rfl
/-- an arrangement of values is one of data -/
theorem perm_data {K : PySem.W.Frag} {H : Hp} {vs ws : List V} (p : vs.Perm ws) : ∀ {ds : List PD}, DqAll K H vs ds → ∃ es, ds.Perm es ∧ DqAll K H ws es := by
  induction p with
  | nil => exact fun {ds} h => ⟨ds, .refl _, h⟩
  | cons x _ ih =>
    intro ds h
    cases h with
    | cons h1 h2 =>
      obtain ⟨es, q, r⟩ := ih h2
      exact ⟨_, q.cons _, .cons h1 r⟩
  | swap x y l =>
    intro ds h
    cases h with
    | cons h1 h2 =>
      cases h2 with
      | cons h2 h3 => exact ⟨_, .swap _ _ _, .cons h2 (.cons h1 h3)⟩
  | trans _ _ ih1 ih2 =>
    intro ds h
    obtain ⟨es, q, r⟩ := ih1 h
    obtain ⟨fs, q', r'⟩ := ih2 r
    exact ⟨fs, q.trans q', r'⟩
/-- what is new to H is no matter to what stood in it -/
theorem To.off {S : So} {H H1 : Hp} {p : Addr} {o : HO} (a : To S H H1) (h : H p = none) : To S H (upd H1 p o) :=
  { kp := fun x u n e => by rw [upd_ne (ne_of_none e h)]; exact a.kp x u n e
    dom := fun x hx => by
      by_cases z : x = p
      · subst z; exact absurd h hx
      · rw [upd_ne z]; exact a.dom x hx
    jo := fun j => by
      have j1 := a.jo j
      cases S with
      | none => trivial
      | some q =>
        obtain ⟨s, c⟩ := q
        have j0 : Src s c H := j
        obtain ⟨_, _, _, _, _, e1, e2⟩ := j0
        exact src_keep j1 (fun o e => by rw [upd_ne (ne_of_none e1 h)]; exact e) (fun o e => by rw [upd_ne (ne_of_none e2 h)]; exact e) }
end Vf
namespace Vf
open PySem PySem.Spec PyProof.Rows L2
theorem wFor_by {wi : WI} {g : WG} {wb : WS} {D : DEnds} {ρ : DSt} {xs : List PD} (hi : ∀ ψ : List PD → Prop, ψ xs → wi ρ ψ) (Inv : Nat → DSt → Prop) (h0 : Inv 0 ρ)
    (hs : ∀ (i : Nat) d ρ', xs[i]? = some d → Inv i ρ' → g d ρ' fun ρ2 => wb { D with nx := Inv (i + 1), ct := Inv (i + 1), bk := D.nx } ρ2) (hd : ∀ ρ', Inv xs.length ρ' → D.nx ρ') : wFor wi g wb D ρ := hi _ ⟨Inv, h0, hs, hd⟩
theorem wFor_n {wi : WI} {g : WG} {wb : WS} {D : DEnds} {ρ : DSt} {l : List Nat} (hi : ∀ ψ : List PD → Prop, ψ (l.map nI) → wi ρ ψ) (Inv : Nat → DSt → Prop) (h0 : Inv 0 ρ)
    (hs : ∀ (i x : Nat) ρ', l[i]? = some x → Inv i ρ' → g (nI x) ρ' fun ρ2 => wb { D with nx := Inv (i + 1), ct := Inv (i + 1), bk := D.nx } ρ2) (hd : ∀ ρ', Inv l.length ρ' → D.nx ρ') : wFor wi g wb D ρ := by
  refine wFor_by hi Inv h0 (fun i d ρ' e h => ?_) fun ρ' h => hd ρ' (by rw [List.length_map] at h; exact h)
  rw [List.getElem?_map] at e
  cases q : l[i]? with
  | none => rw [q] at e; cases e
  | some x =>
    rw [q] at e
    cases e
    exact hs i x ρ' q h
end Vf
namespace Vf
theorem perm_erase {α : Type} : ∀ {l : List α} {k : Nat} (h : k < l.length), l.Perm (l[k] :: l.eraseIdx k)
  | x :: l, 0, _ => .refl _
  | x :: l, k + 1, h => by
    have ih := perm_erase (l := l) (k := k) (by simpa using h)
    exact ((ih.cons x).trans (.swap _ _ _))
end Vf
namespace Vf
open PySem PySem.Spec PyProof.Rows L2
section
variable {i j : Int} {a b : Bool} {xs ys : List PD} {d e : PD} {φ : DV → Prop}
theorem seqD_l : seqD (.dat (.list xs)) = some xs := rfl
theorem seqD_t : seqD (.dat (.tuple xs)) = some xs := rfl
theorem seqD_o : seqD (.own xs) = some xs := rfl
theorem asD_d : asD (.dat d) = some d := rfl
theorem asD_o : asD (.own xs) = some (.list xs) := rfl
theorem itemsD_l : itemsD (.dat (.list xs)) = some xs := rfl
theorem itemsD_t : itemsD (.dat (.tuple xs)) = some xs := rfl
theorem sh_int (i : Int) : SeqAt.shaped (.int i) = true := by
  unfold SeqAt.shaped
  simp [PyData.canLay0, PyData.depth]
theorem sh_bool (i : Bool) : SeqAt.shaped (.bool i) = true := by
  unfold SeqAt.shaped
  simp [PyData.canLay0, PyData.depth]
theorem sh_none : SeqAt.shaped .none = true := by
  unfold SeqAt.shaped
  simp [PyData.canLay0, PyData.depth]
theorem gEq_dat : gEq (.dat d) (.dat e) φ = (SeqAt.shaped d = true ∧ SeqAt.shaped e = true ∧ φ (db (PyData.eqv d e))) := by
  unfold gEq
  refine propext ⟨?_, ?_⟩
  · rintro ⟨d', e', h1, h2, h⟩
    cases h1
    cases h2
    exact h
  · exact fun h => ⟨d, e, rfl, rfl, h⟩
theorem gNe_dat : gNe (.dat d) (.dat e) φ = (SeqAt.shaped d = true ∧ SeqAt.shaped e = true ∧ φ (db (!PyData.eqv d e))) := by
  unfold gNe
  refine propext ⟨?_, ?_⟩
  · rintro ⟨d', e', h1, h2, h⟩
    cases h1
    cases h2
    exact h
  · exact fun h => ⟨d, e, rfl, rfl, h⟩
theorem gAdd_int : gAdd (di i) (di j) φ = φ (di (i + j)) := rfl
theorem gAdd_tup : gAdd (.dat (.tuple xs)) (.dat (.tuple ys)) φ = (xs.length + ys.length ≤ sizeLine ∧ φ (.dat (.tuple (xs ++ ys)))) := rfl
theorem gAdd_lst : gAdd (.dat (.list xs)) (.dat (.list ys)) φ = (xs.length + ys.length ≤ sizeLine ∧ φ (.dat (.list (xs ++ ys)))) := rfl
theorem gAdd_str {x y : Str} : gAdd (.dat (.str x)) (.dat (.str y)) φ = (x.length + y.length ≤ sizeLine ∧ φ (.dat (.str (x ++ y)))) := rfl
theorem gMul_int : gMul (di i) (di j) φ = (CMul i j ∧ φ (di (i * j))) := rfl
theorem gMul_tup : gMul (.dat (.tuple xs)) (di i) φ = (xs ≠ [] ∧ 1 ≤ i ∧ i ≤ 1000 ∧ xs.length ≤ 1000 ∧ φ (.dat (.tuple (List.replicate i.toNat xs).flatten))) := rfl
theorem wSl_eq {we : WE} {wl wh : WO} {ρ : DSt} : wSl we wl wh ρ φ = we ρ fun dv => wl ρ fun l => wh ρ fun u => (∃ xs, dv = .dat (.tuple xs) ∧ φ (.dat (.tuple (cutD xs l u)))) ∨ ∃ xs, dv = .dat (.list xs) ∧ φ (.dat (.list (cutD xs l u))) := by
  unfold wSl
  congr 1
  funext dv
  congr 1
  funext l
  congr 1
  funext u
  refine propext ?_
  split
  · exact ⟨fun h => .inl ⟨_, rfl, h⟩, fun h => h.elim (fun ⟨_, e, h⟩ => by cases e; exact h) (fun ⟨_, e, _⟩ => nomatch e)⟩
  · exact ⟨fun h => .inr ⟨_, rfl, h⟩, fun h => h.elim (fun ⟨_, e, _⟩ => nomatch e) (fun ⟨_, e, h⟩ => by cases e; exact h)⟩
  · rename_i n1 n2
    exact ⟨False.elim, fun h => h.elim (fun ⟨xs, e, _⟩ => n1 xs e) (fun ⟨xs, e, _⟩ => n2 xs e)⟩
end
end Vf
namespace Vf
open PySem PySem.Spec PyProof.Rows L2
theorem hiR {wa : WA} {ρ : DSt} {n : Nat} (hn : n ≤ 16777216) (hw : ∀ χ : List DV → Prop, χ [di n] → wa ρ χ) : ∀ ψ : List PD → Prop, ψ ((List.range n).map nI) → wiR1 wa ρ ψ := fun ψ q => by
  refine hw _ ⟨_, rfl, by omega, by omega, ?_⟩
  rw [Int.toNat_natCast, rng_eq]
  exact q
/-- naturals out of a list of ints that are naturals, sorted -/
theorem nats_perm {ns : List Int} {ys : List Nat} (h : ns.Perm (ys.map fun i : Nat => (i : Int))) : ∃ zs : List Nat, ns = zs.map (fun i : Nat => (i : Int)) ∧ zs.Perm ys := by
  refine ⟨ns.map Int.toNat, ?_, ?_⟩
  · rw [List.map_map]
    refine (List.map_id _).symm.trans (List.map_congr_left fun x hx => ?_)
    obtain ⟨i, _, rfl⟩ := List.mem_map.mp (h.mem_iff.mp hx)
    simp
  · have q := h.map Int.toNat
    rw [List.map_map] at q
    have e : (Int.toNat ∘ fun i : Nat => (i : Int)) = id := by
      funext i
      simp
    rw [e, List.map_id] at q
    exact q
end Vf
namespace Vf
open PySem PySem.Spec PyProof.Rows L2
theorem wLc_nsub {wt : WT} {we : WE} {ρ : DSt} {is : List Nat} {j : Nat} {φ : DV → Prop} {wi : WI} {l : List Nat} (hi : ∀ ψ : List PD → Prop, ψ (l.map nI) → wi ρ ψ) (hl : l.length ≤ sizeLine) (ht : ∀ i ∈ l, ∀ ψ : Bool → Prop, (∀ b, ψ b) → wt (atX ρ is j (nI i)) ψ)
    (he : ∀ i ∈ l, ∀ ψ : DV → Prop, ψ (.dat (nI i)) → we (atX ρ is j (nI i)) ψ) (h : ∀ ys : List Nat, ys.length ≤ l.length → (∀ y ∈ ys, y ∈ l) → φ (.dat (.list (ys.map nI)))) : wLc wi (gNm j) wt we is ρ φ := by
  refine hi _ ⟨fun i acc => ∃ ys : List Nat, acc = ys.map nI ∧ ys.length ≤ i ∧ i ≤ l.length ∧ ∀ y ∈ ys, y ∈ l, ⟨[], rfl, Nat.le_refl _, Nat.zero_le _, fun y h => nomatch h⟩, ?_, ?_⟩
  · rintro i d acc e ⟨ys, rfl, h1, h2, h3⟩
    rw [List.getElem?_map] at e
    cases q : l[i]? with
    | none => rw [q] at e; cases e
    | some x =>
      rw [q] at e
      cases e
      have hx := List.mem_of_getElem? q
      have hlt := (List.getElem?_eq_some_iff.mp q).1
      refine ht x hx _ fun b => ?_
      cases b with
      | true =>
        refine iteT (he x hx _ ⟨nI x, rfl, by rw [List.length_map]; omega, ys ++ [x], by simp, by simp; omega, hlt, fun y hy => ?_⟩)
        rcases List.mem_append.mp hy with z | z
        · exact h3 y z
        · rw [List.mem_singleton.mp z]; exact hx
      | false => exact iteF ⟨ys, rfl, by omega, hlt, h3⟩
  · rintro acc ⟨ys, rfl, h1, h2, h3⟩
    rw [List.length_map] at h1
    exact h ys h1 h3
theorem all_flat_N (l : List Nat) : (l.map nI).all flatD = true := by
  rw [List.all_eq_true]
  intro x hx
  obtain ⟨i, _, rfl⟩ := List.mem_map.mp hx
  rfl
theorem any_N (l : List Nat) (x : Nat) : ((l.map nI).any fun y => PyData.eqv y (nI x)) = decide (x ∈ l) := by
  rw [List.any_map, Bool.eq_iff_iff, List.any_eq_true, decide_eq_true_eq]
  constructor
  · rintro ⟨y, hy, e⟩
    have e' : PyData.eqv (nI y) (nI x) = true := e
    rw [eqv_nI, decide_eq_true_eq] at e'
    exact e' ▸ hy
  · exact fun h => ⟨x, h, by show PyData.eqv (nI x) (nI x) = true; rw [eqv_nI, decide_eq_true_eq]⟩
end Vf
namespace Vf
open PySem PySem.Spec PyProof.Rows L2
/-- == whatever: two texts, else data -/
def gEqA : G2 := fun x y φ => match x, y with
  | .dat (.str a), .dat (.str b) => φ (db (decide (a = b)))
  | x, y => gEq x y φ
def gNeA : G2 := fun x y φ => match x, y with
  | .dat (.str a), .dat (.str b) => φ (db (!decide (a = b)))
  | x, y => gNe x y φ
section
variable {X : Cx} {k : Nat}
theorem dec_strV (a b : Str) : decide (V.str a = V.str b) = decide (a = b) := by
  rw [Bool.eq_iff_iff]
  simp
theorem o_eqS : OG X (compareOp .Eq) fun x y φ => ∃ a b : Str, x = .dat (.str a) ∧ y = .dat (.str b) ∧ φ (db (decide (a = b))) := ⟨_, op_eq, by
  rintro M S H x y _ _ gd rx ry φ ⟨a, b, rfl, rfl, h⟩ Q hQ
  have e1 := rx.str
  have e2 := ry.str
  subst e1 e2
  refine ⟨rfl, ?_⟩
  rw [dec_strV]
  exact hQ _ _ H .refl rd_bl h⟩
theorem o_neS : OG X (compareOp .NotEq) fun x y φ => ∃ a b : Str, x = .dat (.str a) ∧ y = .dat (.str b) ∧ φ (db (!decide (a = b))) := ⟨_, op_ne, by
  rintro M S H x y _ _ gd rx ry φ ⟨a, b, rfl, rfl, h⟩ Q hQ
  have e1 := rx.str
  have e2 := ry.str
  subst e1 e2
  refine ⟨rfl, ?_⟩
  rw [dec_strV]
  exact hQ _ _ H .refl rd_bl h⟩
theorem o_eqA (room : Room k X.A) : OG X (compareOp .Eq) gEqA := ((o_eq room).or o_eqS).imp fun x y φ h => by
  unfold gEqA at h
  split at h
  · exact .inr ⟨_, _, rfl, rfl, h⟩
  · exact .inl h
theorem o_neA (room : Room k X.A) : OG X (compareOp .NotEq) gNeA := ((o_ne room).or o_neS).imp fun x y φ h => by
  unfold gNeA at h
  split at h
  · exact .inr ⟨_, _, rfl, rfl, h⟩
  · exact .inl h
end
section
variable {φ : DV → Prop} {a b : Str} {i j : Int} {p q : Bool} {xs ys : List PD} {d : PD}
theorem eqA_str : gEqA (.dat (.str a)) (.dat (.str b)) φ = φ (db (decide (a = b))) := rfl
theorem neA_str : gNeA (.dat (.str a)) (.dat (.str b)) φ = φ (db (!decide (a = b))) := rfl
theorem eqA_int : gEqA (di i) (.dat d) φ = gEq (di i) (.dat d) φ := rfl
theorem eqA_bl : gEqA (db p) (.dat d) φ = gEq (db p) (.dat d) φ := rfl
theorem eqA_tup : gEqA (.dat (.tuple xs)) (.dat d) φ = gEq (.dat (.tuple xs)) (.dat d) φ := rfl
theorem eqA_lst : gEqA (.dat (.list xs)) (.dat d) φ = gEq (.dat (.list xs)) (.dat d) φ := rfl
theorem neA_int : gNeA (di i) (.dat d) φ = gNe (di i) (.dat d) φ := rfl
theorem neA_bl : gNeA (db p) (.dat d) φ = gNe (db p) (.dat d) φ := rfl
theorem neA_tup : gNeA (.dat (.tuple xs)) (.dat d) φ = gNe (.dat (.tuple xs)) (.dat d) φ := rfl
theorem neA_lst : gNeA (.dat (.list xs)) (.dat d) φ = gNe (.dat (.list xs)) (.dat d) φ := rfl
end
end Vf
namespace Vf
theorem cast_eq (a b : Nat) : ((a : Int) = (b : Int)) = (a = b) := propext ⟨fun h => by omega, fun h => by omega⟩
theorem cast_lt (a b : Nat) : ((a : Int) < (b : Int)) = (a < b) := propext ⟨fun h => by omega, fun h => by omega⟩
theorem cast_le (a b : Nat) : ((a : Int) ≤ (b : Int)) = (a ≤ b) := propext ⟨fun h => by omega, fun h => by omega⟩
end Vf
namespace Vf
open PySem PySem.Spec PyProof.Rows L2
theorem eqv_l0 (l : List PD) : PyData.eqv (.list l) (.list []) = decide (l = []) := by
  cases l with
  | nil => simp [PyData.eqv, PyData.eqvAll]
  | cons x l => simp [PyData.eqv, PyData.eqvAll]
theorem sh_lN {l : List Nat} (h : ∀ x ∈ l, x < 10 ^ 12) : SeqAt.shaped (.list (l.map nI)) = true := (fine_lN h).shaped
theorem sh_tN {l : List Nat} (h : ∀ x ∈ l, x < 10 ^ 12) : SeqAt.shaped (tN l) = true := (fine_tN h).shaped
theorem sh_l0 : SeqAt.shaped (.list []) = true := sh_lN (l := []) fun x h => nomatch h
end Vf
namespace Vf
open PySem PySem.Spec PyProof.Rows L2
theorem eqv_in (i : Int) (x : Nat) : PyData.eqv (.int i) (nI x) = decide (i = (x : Int)) := eqv_int _ _
theorem eqv_ni (i : Int) (x : Nat) : PyData.eqv (nI x) (.int i) = decide ((x : Int) = i) := eqv_int _ _
theorem sh_nI (x : Nat) : SeqAt.shaped (nI x) = true := sh_int _
end Vf
namespace Vf
open PySem PySem.Spec PyProof.Rows L2
theorem cutD_take {l : List Nat} {k : Nat} (h : k ≤ l.length) : cutD (l.map nI) none (some (k : Int)) = (l.take k).map nI := by
  unfold cutD
  rw [HT.sIx_none, HT.sIx_nat, List.length_map, Nat.min_eq_left h, List.drop_zero, Nat.sub_zero, List.map_take]
theorem cutD_drop {l : List Nat} {k : Nat} (h : k ≤ l.length) : cutD (l.map nI) (some (k : Int)) none = (l.drop k).map nI := by
  unfold cutD
  rw [HT.sIx_none, HT.sIx_nat, List.length_map, Nat.min_eq_left h, List.map_drop]
  refine List.take_of_length_le ?_
  simp
theorem nodup_filter {α : Type} {p : α → Bool} {l : List α} (h : l.Nodup) : (l.filter p).Nodup := List.Pairwise.sublist List.filter_sublist h
end Vf

set_option Elab.async false
set_option linter.all false
set_option maxRecDepth 100000
set_option maxHeartbeats 4000000
set_option autoImplicit false
namespace L_drawndeeds_k02_whole_deeds_done
open PySem PySem.Spec PyProof.Rows L2 Vf
def top (i : Nat) : Stmt := PySem.Challenge.pw_drawndeeds_k02_whole_deeds_done.main.body.getD i (.Pass ⟨0, 0, 0, 0⟩)
abbrev s_idle : Stmt := top 1
theorem sc_idle : FnScope ["n"] ["n"] (defScope s_idle) := ⟨rfl, rfl, rfl, by decide +kernel, rfl, by decide +kernel, by decide +kernel⟩
abbrev s_product : Stmt := top 2
theorem sc_product : FnScope ["deed", "other", "p"] ["deed", "other"] (defScope s_product) := ⟨rfl, rfl, rfl, by decide +kernel, rfl, by decide +kernel, by decide +kernel⟩
abbrev s_done : Stmt := top 3
theorem sc_done : FnScope ["book", "word", "n", "deeds", "deed", "letter"] ["book", "word"] (defScope s_done) := ⟨rfl, rfl, rfl, by decide +kernel, rfl, by decide +kernel, by decide +kernel⟩
abbrev s_held : Stmt := top 4
theorem sc_held : FnScope ["deed", "p"] ["deed"] (defScope s_held) := ⟨rfl, rfl, rfl, by decide +kernel, rfl, by decide +kernel, by decide +kernel⟩
abbrev s_reach : Stmt := top 5
theorem sc_reach : FnScope ["deed"] ["deed"] (defScope s_reach) := ⟨rfl, rfl, rfl, by decide +kernel, rfl, by decide +kernel, by decide +kernel⟩
abbrev s_rank : Stmt := top 6
theorem sc_rank : FnScope ["deed"] ["deed"] (defScope s_rank) := ⟨rfl, rfl, rfl, by decide +kernel, rfl, by decide +kernel, by decide +kernel⟩
abbrev s_is_settled : Stmt := top 7
theorem sc_is_settled : FnScope ["deed"] ["deed"] (defScope s_is_settled) := ⟨rfl, rfl, rfl, by decide +kernel, rfl, by decide +kernel, by decide +kernel⟩
abbrev s__law_source : Stmt := top 9
theorem sc__law_source : FnScope ["script", "mixed", "cell"] ["script"] (defScope s__law_source) := ⟨rfl, rfl, rfl, by decide +kernel, rfl, by decide +kernel, by decide +kernel⟩
abbrev s__law_pick : Stmt := top 10
theorem sc__law_pick : FnScope ["source", "many", "left", "mixed"] ["source", "many"] (defScope s__law_pick) := ⟨rfl, rfl, rfl, by decide +kernel, rfl, by decide +kernel, by decide +kernel⟩
abbrev s__law_of : Stmt := top 11
theorem sc__law_of : FnScope ["source", "things"] ["source", "things"] (defScope s__law_of) := ⟨rfl, rfl, rfl, by decide +kernel, rfl, by decide +kernel, by decide +kernel⟩
abbrev s__law_mixed : Stmt := top 12
theorem sc__law_mixed : FnScope ["source", "things", "rest", "lap"] ["source", "things"] (defScope s__law_mixed) := ⟨rfl, rfl, rfl, by decide +kernel, rfl, by decide +kernel, by decide +kernel⟩
abbrev s__law_deed : Stmt := top 13
theorem sc__law_deed : FnScope ["source", "n", "way", "kept", "p"] ["source", "n", "way"] (defScope s__law_deed) := ⟨rfl, rfl, rfl, by decide +kernel, rfl, by decide +kernel, by decide +kernel⟩
abbrev s__law_led : Stmt := top 14
theorem sc__law_led : FnScope ["book", "word", "place", "letter"] ["book", "word", "place"] (defScope s__law_led) := ⟨rfl, rfl, rfl, by decide +kernel, rfl, by decide +kernel, by decide +kernel⟩
abbrev s__law_deed_right : Stmt := top 15
theorem sc__law_deed_right : FnScope ["deed", "n", "shown", "hold", "reached", "is_twice", "p", "q"] ["deed"] (defScope s__law_deed_right) := ⟨rfl, rfl, rfl, by decide +kernel, rfl, by decide +kernel, by decide +kernel⟩
abbrev s__law_words_right : Stmt := top 16
theorem sc__law_words_right : FnScope ["source", "book", "deed", "many", "long", "word", "due", "shown", "told", "k", "both", "p", "q", "one"] ["source", "book", "deed"] (defScope s__law_words_right) := ⟨rfl, rfl, rfl, by decide +kernel, rfl, by decide +kernel, by decide +kernel⟩
abbrev s__law_beside : Stmt := top 17
theorem sc__law_beside : FnScope ["source", "n", "m", "near", "far", "p"] ["source", "n", "m"] (defScope s__law_beside) := ⟨rfl, rfl, rfl, by decide +kernel, rfl, by decide +kernel, by decide +kernel⟩
abbrev s_law : Stmt := top 18
theorem sc_law : FnScope ["script", "source", "lap", "n", "m", "deeds", "deed", "book", "told", "k", "word"] ["script"] (defScope s_law) := ⟨rfl, rfl, rfl, by decide +kernel, rfl, by decide +kernel, by decide +kernel⟩
structure Tx (K : PySem.W.Frag) (mg : Str → Option Value) where
  f_idle : Addr
  d_idle : FuncData
  F_idle : Fun K "idle" "idle" s_idle f_idle d_idle
  b_idle : Binds K d_idle ["n"] []
  m_idle : mg "idle" = some (.ref f_idle)
  f_product : Addr
  d_product : FuncData
  F_product : Fun K "product" "product" s_product f_product d_product
  b_product : Binds K d_product ["deed", "other"] []
  m_product : mg "product" = some (.ref f_product)
  f_done : Addr
  d_done : FuncData
  F_done : Fun K "done" "done" s_done f_done d_done
  b_done : Binds K d_done ["book", "word"] []
  m_done : mg "done" = some (.ref f_done)
  f_held : Addr
  d_held : FuncData
  F_held : Fun K "held" "held" s_held f_held d_held
  b_held : Binds K d_held ["deed"] []
  m_held : mg "held" = some (.ref f_held)
  f_reach : Addr
  d_reach : FuncData
  F_reach : Fun K "reach" "reach" s_reach f_reach d_reach
  b_reach : Binds K d_reach ["deed"] []
  m_reach : mg "reach" = some (.ref f_reach)
  f_rank : Addr
  d_rank : FuncData
  F_rank : Fun K "rank" "rank" s_rank f_rank d_rank
  b_rank : Binds K d_rank ["deed"] []
  m_rank : mg "rank" = some (.ref f_rank)
  f_is_settled : Addr
  d_is_settled : FuncData
  F_is_settled : Fun K "is_settled" "is_settled" s_is_settled f_is_settled d_is_settled
  b_is_settled : Binds K d_is_settled ["deed"] []
  m_is_settled : mg "is_settled" = some (.ref f_is_settled)
  f__law_source : Addr
  d__law_source : FuncData
  F__law_source : Fun K "_law_source" "_law_source" s__law_source f__law_source d__law_source
  b__law_source : Binds K d__law_source ["script"] []
  m__law_source : mg "_law_source" = some (.ref f__law_source)
  f__law_pick : Addr
  d__law_pick : FuncData
  F__law_pick : Fun K "_law_pick" "_law_pick" s__law_pick f__law_pick d__law_pick
  b__law_pick : Binds K d__law_pick ["source", "many"] []
  m__law_pick : mg "_law_pick" = some (.ref f__law_pick)
  f__law_of : Addr
  d__law_of : FuncData
  F__law_of : Fun K "_law_of" "_law_of" s__law_of f__law_of d__law_of
  b__law_of : Binds K d__law_of ["source", "things"] []
  m__law_of : mg "_law_of" = some (.ref f__law_of)
  f__law_mixed : Addr
  d__law_mixed : FuncData
  F__law_mixed : Fun K "_law_mixed" "_law_mixed" s__law_mixed f__law_mixed d__law_mixed
  b__law_mixed : Binds K d__law_mixed ["source", "things"] []
  m__law_mixed : mg "_law_mixed" = some (.ref f__law_mixed)
  f__law_deed : Addr
  d__law_deed : FuncData
  F__law_deed : Fun K "_law_deed" "_law_deed" s__law_deed f__law_deed d__law_deed
  b__law_deed : Binds K d__law_deed ["source", "n", "way"] []
  m__law_deed : mg "_law_deed" = some (.ref f__law_deed)
  f__law_led : Addr
  d__law_led : FuncData
  F__law_led : Fun K "_law_led" "_law_led" s__law_led f__law_led d__law_led
  b__law_led : Binds K d__law_led ["book", "word", "place"] []
  m__law_led : mg "_law_led" = some (.ref f__law_led)
  f__law_deed_right : Addr
  d__law_deed_right : FuncData
  F__law_deed_right : Fun K "_law_deed_right" "_law_deed_right" s__law_deed_right f__law_deed_right d__law_deed_right
  b__law_deed_right : Binds K d__law_deed_right ["deed"] []
  m__law_deed_right : mg "_law_deed_right" = some (.ref f__law_deed_right)
  f__law_words_right : Addr
  d__law_words_right : FuncData
  F__law_words_right : Fun K "_law_words_right" "_law_words_right" s__law_words_right f__law_words_right d__law_words_right
  b__law_words_right : Binds K d__law_words_right ["source", "book", "deed"] []
  m__law_words_right : mg "_law_words_right" = some (.ref f__law_words_right)
  f__law_beside : Addr
  d__law_beside : FuncData
  F__law_beside : Fun K "_law_beside" "_law_beside" s__law_beside f__law_beside d__law_beside
  b__law_beside : Binds K d__law_beside ["source", "n", "m"] []
  m__law_beside : mg "_law_beside" = some (.ref f__law_beside)
  f_law : Addr
  d_law : FuncData
  F_law : Fun K "law" "law" s_law f_law d_law
  b_law : Binds K d_law ["script"] []
  m_law : mg "law" = some (.ref f_law)
  z_abs : mg "abs" = none
  z_int : mg "int" = none
  z_len : mg "len" = none
  z_list : mg "list" = none
  z_max : mg "max" = none
  z_min : mg "min" = none
  z_range : mg "range" = none
  z_repr : mg "repr" = none
  z_set : mg "set" = none
  z_sorted : mg "sorted" = none
  z_tuple : mg "tuple" = none
local macro_rules | `(tactic| walk_at "w0") => `(tactic| simp only [Vf.atX, Vf.wVar, Vf.wC, Vf.wOp, Vf.wTest, Vf.gI, Vf.gI0, Vf.gB0, Vf.gIsN, Vf.gNotN, Vf.wNil, Vf.wCons, Vf.wTup, Vf.wLst, Vf.wCB, Vf.cLen, Vf.cInt, Vf.cAbs, Vf.cMax2, Vf.cMin2, Vf.cTuple, Vf.cList, Vf.gIx, Vf.wAnd, Vf.wOr, Vf.wNot, Vf.wAndV, Vf.wOrV, Vf.wNotV, Vf.wIf, Vf.wCall, Vf.gNm, Vf.gsNil, Vf.gsCons, Vf.gTp, Vf.wAsg, Vf.wAsgG, Vf.wPar, Vf.wDrop, Vf.wRet, Vf.wRetN, Vf.wNext, Vf.wSeq, Vf.wBreak, Vf.wCont, Vf.wIfS, Vf.wiTup, Vf.wiLst, Vf.wiR1, Vf.wiR2, Vf.wYes, Vf.gIn, Vf.gIsB, Vf.wPart, Vf.wNoPart, Vf.wRev, Vf.cSortI, Vf.wSortSet, Vf.wRgT, Vf.wRgL, Vf.wiSeq, Vf.cRepr, Vf.dstart, Vf.wipeD, Vf.allDat, Vf.wSl_eq, Vf.gAdd_int, Vf.gAdd_tup, Vf.gAdd_lst, Vf.gAdd_str, Vf.gMul_int, Vf.gMul_tup, Vf.gEq_dat, Vf.gNe_dat, Vf.sh_int, Vf.sh_bool, Vf.sh_none, Vf.eqv_int, Vf.eqv_in, Vf.eqv_ni, Vf.eqv_nI, Vf.sh_nI, Vf.eqv_bool, Vf.eqv_tN, Vf.eqv_l0, Vf.sh_l0, Vf.eqA_str, Vf.neA_str, Vf.eqA_int, Vf.eqA_bl, Vf.eqA_tup, Vf.eqA_lst, Vf.neA_int, Vf.neA_bl, Vf.neA_tup, Vf.neA_lst, Vf.cast_eq, Vf.cast_lt, Vf.cast_le, Vf.seqD_l, Vf.seqD_t, Vf.seqD_o, Vf.asD_d, Vf.asD_o, Vf.itemsD_l, Vf.itemsD_t, List.map_cons, List.map_nil, List.replicate_succ, List.replicate_zero, List.cons_append, List.nil_append, List.getElem?_cons_zero, List.getElem?_cons_succ, List.set_cons_zero, List.set_cons_succ, List.length_cons, List.length_nil, Nat.reduceAdd, Nat.reduceSub, Nat.zero_add, Option.some.injEq, List.cons.injEq, DV.dat.injEq, and_true, true_and, exists_eq_left', exists_eq_left, exists_eq_right, exists_eq_right', exists_and_left, exists_and_right, PyData.int.injEq, PyData.bool.injEq, PyData.tuple.injEq, PyData.list.injEq, PyData.str.injEq, Option.map_some, reduceCtorEq, false_and, and_false, exists_false, or_false, false_or, decide_eq_true_eq, List.length_map, List.length_range, sizeLine_eq, Nat.reduceLeDiff, Nat.zero_le, if_true, if_false, Bool.false_eq_true, ite_true, ite_false])
section
variable {P : Program} {w : World} {K : PySem.W.Frag} {mg : Str → Option Value} {base : Heap}
/-- idle(n) -/
def fs_idle : FS := fun ds φ => ∃ n : Nat, ds = [di n] ∧ n ≤ 100000 ∧ φ (.dat (tN (List.range n)))
theorem ok_idle (T : Tx K mg) : FnG P w K mg base CX0 1 T.f_idle T.d_idle ["n"] (spD K 1 fs_idle) := by
  refine okD T.F_idle sc_idle fun cdv A outer s H E grd room => ⟨_, (dss_one (ds_ret (de_rgT (dv 0) rfl T.z_tuple rfl T.z_range))), fun ds φ hl hf => ?_⟩
  obtain ⟨n, rfl, hn, h⟩ := hf
  have e : ((n : Int)).toNat = n := by simp
  simp only [rng_eq, e, dstart, wRet, wRgT, wVar]
  exact ⟨_, rfl, _, rfl, by omega, by omega, _, rfl, h⟩

/-- product(deed, other) -/
def mulN (a b : List Nat) : List Nat := a.map fun x => b.getD x 0
theorem mulN_lt {a b : List Nat} {n : Nat} (h : ∀ x ∈ a, x < b.length) (hb : ∀ x ∈ b, x < n) : ∀ x ∈ mulN a b, x < n := fun x hx => by
  obtain ⟨y, hy, rfl⟩ := List.mem_map.mp hx
  have := h y hy
  rw [List.getD_eq_getElem?_getD, List.getElem?_eq_getElem this]
  exact hb _ (List.getElem_mem this)
theorem mulN_len {a b : List Nat} : (mulN a b).length = a.length := by simp [mulN]
def fs_product : FS := fun ds φ => ∃ a b : List Nat, ds = [.dat (tN a), .dat (tN b)] ∧ a.length ≤ 100000 ∧ (∀ x ∈ a, x < b.length) ∧ φ (.dat (tN (mulN a b)))
theorem ok_product (T : Tx K mg) : FnG P w K mg base CX0 1 T.f_product T.d_product ["deed", "other"] (spD K 2 fs_product) := by
  refine okD T.F_product sc_product fun cdv A outer s H E grd room => ⟨_, (dss_one (ds_ret (de_callTy b_tuple rfl T.z_tuple (by decide +kernel) (da_cons (de_lc sc_product.nd (di_seq (dv 0)) (blkOk_by (N := ["deed", "other", "p"]) (sc := defScope s_product) (own := [("p", 2)]) (by decide +kernel)) rfl (fun _ _ _ _ _ => (dg_name (i := 2) sc_product.nd)) (fun _ _ _ _ _ => dts_nil) (fun _ _ _ _ _ => (de_ix (dv 1) (dv 2)))) da_nil)))), fun ds φ hl hf => ?_⟩
  obtain ⟨a, b, rfl, hl, hb, h⟩ := hf
  walk_at "w0"
  refine wLc_nmap (l := a) (fun x => nI (b.getD x 0)) (by simp) (by rw [sizeLine_eq]; omega) (fun x hx ψ q => ?_) ?_
  · have := atD_N (hb x hx)
    simp [this]
    exact q
  · simp only [tN, mulN, List.map_map, Function.comp_def] at h
    walk_at "w0"
    exact h

/-- held(deed) -/
def heldN (a : List Nat) : List Nat := (List.range a.length).filter fun p => a.getD p 0 = p
def fs_held : FS := fun ds φ => ∃ a : List Nat, ds = [.dat (tN a)] ∧ a.length ≤ 100000 ∧ φ (.dat (tN (heldN a)))
theorem ok_held (T : Tx K mg) : FnG P w K mg base CX0 1 T.f_held T.d_held ["deed"] (spD K 1 fs_held) := by
  refine okD T.F_held sc_held fun cdv A outer s H E grd room => ⟨_, (dss_one (ds_ret (de_callTy b_tuple rfl T.z_tuple (by decide +kernel) (da_cons (de_lc sc_held.nd (di_rng1 rfl T.z_range (da_cons (de_callB b_len rfl T.z_len (by decide +kernel) (da_cons (dv 0) da_nil)) da_nil)) (blkOk_by (N := ["deed", "p"]) (sc := defScope s_held) (own := [("p", 1)]) (by decide +kernel)) rfl (fun _ _ _ _ _ => (dg_name (i := 1) sc_held.nd)) (fun _ _ _ _ _ => (dts_one (dt_cmp (o_eqA room) (de_ix (dv 0) (dv 1)) (dv 1)))) (fun _ _ _ _ _ => (dv 1))) da_nil)))), fun ds φ hl hf => ?_⟩
  obtain ⟨a, rfl, hl, h⟩ := hf
  walk_at "w0"
  refine wLc_nfm (l := List.range a.length) (fun p => decide (a.getD p 0 = p)) nI ?_ (by rw [sizeLine_eq, List.length_range]; omega) (fun x hx ψ q => ?_) (fun x hx hp ψ q => ?_) ?_
  · intro ψ q
    simp [rng_eq]
    exact ⟨by omega, q⟩
  · have hx' := List.mem_range.mp hx
    have e := atD_N hx'
    walk_at "w0"
    refine ⟨_, e, ?_⟩
    walk_at "w0"
    exact q
  · simp
    exact q
  · simp
    exact h

/-- reach(deed) -/
def fs_reach : FS := fun ds φ => ∃ (n : Nat) (a : List Nat), ds = [.dat (tN a)] ∧ a.length < 64 ∧ (∀ x ∈ a, x < n) ∧ φ (.dat (tN (reachN n a)))
theorem ok_reach (T : Tx K mg) : FnG P w K mg base CX0 1 T.f_reach T.d_reach ["deed"] (spD K 1 fs_reach) := by
  refine okD T.F_reach sc_reach fun cdv A outer s H E grd room => ⟨_, (dss_one (ds_ret (de_callTy b_tuple rfl T.z_tuple (by decide +kernel) (da_cons (de_sortSet (dv 0) rfl T.z_sorted rfl T.z_set) da_nil)))), fun ds φ hl hf => ?_⟩
  obtain ⟨n, a, rfl, hl, hn, h⟩ := hf
  walk_at "w0"
  refine ⟨a.map fun i : Nat => (i : Int), by rw [map_nI], by simpa using hl, fun ns hp hm => ?_⟩
  rw [reach_of hn hp hm, map_nI]
  exact h

-- RAW
theorem ok__law_source (T : Tx K mg) : FnG P w K mg base CX0 1 T.f__law_source T.d__law_source ["script"] (spSrc K) := by
  refine okG0 T.F__law_source sc__law_source (fun vs H Q E h => ?_) (fun cdv A outer s H vs Q E grd room h => ?_)
  · obtain ⟨a, ns, rfl, _⟩ := h
    rfl
  · obtain ⟨a, ns, rfl, scr, hl, k⟩ := h
    refine ⟨_, pss_cons (ps_set (i := 1) sc__law_source.nd rfl (Or.inl rfl) pe_int)
      (pss_cons (ps_for PassesOwn.never rfl (pi_list (pv 0)) (pg_name (i := 2) sc__law_source.nd rfl (Or.inl rfl))
        (pss_one (ps_set (i := 1) sc__law_source.nd rfl (Or.inl rfl) (pe_op op_mod (pe_callTy call_int1 (by rfl) T.z_int (by decide +kernel) (pa_cons (pe_op op_add (pe_op op_add (pe_op op_mul (pv 1) pe_int) (pe_op op_mul (pv 2) pe_int)) pe_int) pa_nil)) pe_int))))
      (pss_one (ps_ret (pe_disp (pps_cons pe_str (pe_revL (pe_lc (own := [("cell", 2)]) (g := gName 2) (tt := tYes) rfl sc__law_source.nd (pi_list (pv 0)) (blkOk_by (N := ["script", "mixed", "cell"]) (sc := defScope s__law_source) (by decide +kernel))
          (fun _ _ _ _ _ => pg_name (i := 2) sc__law_source.nd rfl (Or.inl rfl)) (fun _ _ _ _ _ => pts_nil) (fun _ _ _ _ _ => pe_callB call_abs (by rfl) T.z_abs (by decide +kernel) (pa_cons (pv 2) pa_nil))))
        (pps_cons pe_str pe_int (pps_cons pe_str (pv 1) (pps_cons pe_str pe_int pps_nil)))) (by rfl) (by rfl) (fun z => by cases z) (by decide))))), ?_⟩
    have sq : ∀ {H' : Hp}, Le H H' → SqL K H' a (ns.map V.int) := fun {H'} le => sql_le le scr.seq
    -- mixed over the script
    refine ⟨_, rfl, a, rfl, ⟨_, scr.seq⟩, for_list (K := K) (a := a) (xs := ns.map V.int) (fun i σ H2 => ∃ (m : Int) (v : Option V), σ = [some (.ref a), some (.int m), v] ∧ 0 ≤ m ∧ m < 2147483629 ∧ H2 = H) ⟨11, none, rfl, by omega, by omega, rfl⟩ (fun i σ H2 _ ⟨_, _, _, _, _, e⟩ => by rw [e]; exact scr.seq) ?_ ?_⟩
    · rintro i y σ H2 hi ⟨m, v, rfl, h0, h1, rfl⟩
      rw [List.getElem?_map] at hi
      cases e : ns[i]? with
      | none =>
        rw [e] at hi
        cases hi
      | some z =>
        rw [e] at hi
        cases hi
        refine ⟨_, rfl, _, _, rfl, rfl, .inl ⟨by omega, by omega⟩, _, rfl, _, _, rfl, rfl, .inr ⟨by omega, by omega⟩, _, _, rfl, rfl, _, _, rfl, rfl, .inl ⟨_, rfl, _, _, rfl, rfl, by show (0 : Int) < 2147483629; omega, ?_⟩⟩
        exact ⟨_, _, rfl, Int.emod_nonneg _ (by omega), Int.emod_lt_of_pos _ (by omega), rfl⟩
    · rintro σ H2 ⟨m, v, rfl, h0, h1, rfl⟩
      intro d hd
      have le0 : Le H2 (upd H2 d (.dK [])) := le_new hd
      refine ⟨_, rfl, a, rfl, ⟨_, sq le0⟩, fun D hD => ?_⟩
      have hDd : D ≠ d := fun e => by rw [e, upd_same] at hD; cases hD
      refine lc_list (K := K) (a := a) (xs := ns.map V.int) (fun i H3 => ∃ acc : List Int, acc.length = i ∧ H3 = upd (upd H2 d (.dK [])) D (.lst (acc.map V.int))) ⟨[], rfl, rfl⟩ ?_ ?_ ?_
      · rintro i H3 _ ⟨acc, _, rfl⟩
        exact sq (le0.trans (le_new hD))
      · rintro i x H3 hi ⟨acc, hacc, rfl⟩
        have hlt : i < ns.length := by
          have := (List.getElem?_eq_some_iff.mp hi).1
          simpa using this
        rw [List.getElem?_map] at hi
        cases e : ns[i]? with
        | none =>
          rw [e] at hi
          cases hi
        | some z =>
          rw [e] at hi
          cases hi
          refine ⟨rfl, _, rfl, _, rfl, acc.map V.int, upd_same, ?_, acc ++ [if z < 0 then -z else z], by simp [hacc], ?_⟩
          · rw [List.length_map, hacc, sizeLine_eq]
            omega
          · rw [upd_upd, List.map_append]
            rfl
      · rintro H3 ⟨acc, _, rfl⟩
        refine ⟨D, acc.map V.int, rfl, SqL.of upd_same, fun c hc => ?_⟩
        have hcD : c ≠ D := fun e => by rw [e, upd_same] at hc; cases hc
        have hc1 : (upd H2 d (.dK [])) c = none := by rw [upd_ne hcD] at hc; exact hc
        have hcd : c ≠ d := fun e => by rw [e, upd_same] at hc1; cases hc1
        refine ⟨_, rfl, ?_⟩
        have e0 : (upd (upd (upd H2 d (.dK [])) D (.lst (acc.map V.int))) c (.lst (acc.map V.int).reverse)) d = some (.dK []) := by
          rw [upd_ne hcd.symm, upd_ne hDd.symm, upd_same]
        refine ⟨e0, [(kC, .ref c), (kL, .int 1), (kM, .int m), (kT, .int 0)], rfl, (by show 4 ≤ 15; decide), ?_⟩
        rw [src_merge]
        refine k d c _ ?_ hd (by rw [upd_ne hcd] at hc1; exact hc1) ⟨hcd.symm, 1, m, 0, acc.reverse, upd_same, ?_⟩
        · intro b o e
          have b1 : b ≠ d := ne_of_none e hd
          have b2 : b ≠ D := fun z => by rw [z] at e; rw [upd_ne hDd] at hD; rw [hD] at e; cases e
          have b3 : b ≠ c := fun z => by rw [z] at e; rw [upd_ne hcd] at hc1; rw [hc1] at e; cases e
          rw [upd_ne b1, upd_ne b3, upd_ne b2, upd_ne b1]
          exact e
        · rw [upd_ne hcd, upd_same, List.map_reverse]

-- RAW
theorem ok__law_pick (T : Tx K mg) : FnG P w K mg base CX0 1 T.f__law_pick T.d__law_pick ["source", "many"] (spD K 2 fs__law_pick) := by
  have nd := sc__law_pick.nd
  refine okG0 T.F__law_pick sc__law_pick (fun vs H Q E h => h.1) (fun cdv A outer s0 H vs Q E grd room h => ?_)
  obtain ⟨_, M, So, ds, φ, gd, rel, ⟨many, rfl, hmany, hφn⟩, hQ⟩ := h
  have hφ : ∀ r : Int, 0 ≤ r → r < many ∨ r = 0 → φ (di r) := fun r h0 h1 => by
    have q := hφn r.toNat (by omega)
    rw [Int.toNat_of_nonneg h0] at q
    exact q
  obtain ⟨v1, v2, rfl, ⟨s, c, rfl, rfl⟩, r2⟩ := rds2 rel
  have e2 := r2.int
  subst e2
  have hu := hu_of room
  refine ⟨_, pss_cons (ps_while PassesOwn.never (PW.pt (pw_and (pt_cmpR op_gt (pv 1) pe_int (nomark _)) (pw_and (pt_cmpR op_lt (pe_dget hu (pv 0) pe_str (fun _ _ => rfl)) pe_int (nomark _))
        (pw_and1 (pt_cmpR op_gt (pe_callB call_len (by rfl) T.z_len (by decide +kernel) (pa_cons (pe_dget hu (pv 0) pe_str (fun _ _ => rfl)) pa_nil)) pe_int (nomark _))))))
      (pss_one (ps_dput hu (pv 0) pe_str (pe_bm0 PySem.F.plainAttrs_list PySem.F.slot_list_pop PySem.F.type_list_pop mt_pop (pe_dget hu (pv 0) pe_str (fun _ _ => rfl))) rfl)))
    (pss_cons (ps_set (i := 2) nd rfl (Or.inl rfl) (pe_dget hu (pv 0) pe_str (fun _ _ => rfl)))
    (pss_cons (ps_if (PW.pt (pw_or (pt_cmpR op_lt (pv 1) pe_int (nomark _)) (pw_or1 (pt_cmpR op_gt (pv 2) pe_int (nomark _)))))
        (pss_cons (ps_dput hu (pv 0) pe_str (pe_op op_fdiv (pv 2) (pe_callB (call_max2 rfl) (by rfl) T.z_max (by decide +kernel) (pa_cons pe_int (pa_cons (pv 1) pa_nil)))) rfl)
        (pss_one (ps_ret (pe_op op_mod (pe_callTy call_int1 (by rfl) T.z_int (by decide +kernel) (pa_cons (pv 2) pa_nil)) (pe_callB (call_max2 rfl) (by rfl) T.z_max (by decide +kernel) (pa_cons pe_int (pa_cons (pv 1) pa_nil)))))))
        pss_nil)
    (pss_cons (ps_dput hu (pv 0) pe_str (pe_op op_add (pe_dget hu (pv 0) pe_str (fun _ _ => rfl)) pe_int) rfl)
    (pss_cons (ps_set (i := 3) nd rfl (Or.inl rfl) (pe_op op_mod (pe_callTy call_int1 (by rfl) T.z_int (by decide +kernel) (pa_cons (pe_op op_add (pe_dget hu (pv 0) pe_str (fun _ _ => rfl)) (pe_op op_mul (pe_dget hu (pv 0) pe_str (fun _ _ => rfl)) pe_int)) pa_nil)) pe_int))
    (pss_cons (ps_set (i := 3) nd rfl (Or.inl rfl) (pe_op op_mod (pe_callTy call_int1 (by rfl) T.z_int (by decide +kernel) (pa_cons (pe_op op_add (pe_op op_mul (pv 3) (pv 3)) (pe_op op_mul (pe_dget hu (pv 0) pe_str (fun _ _ => rfl)) pe_int)) pa_nil)) pe_int))
    (pss_cons (ps_dput hu (pv 0) pe_str (pv 3) rfl)
    (pss_one (ps_ret (pe_op op_mod (pe_callTy call_int1 (by rfl) T.z_int (by decide +kernel) (pa_cons (pe_op op_fdiv (pv 3) pe_int) pa_nil)) (pv 1))))))))))
    , ?_⟩
  -- where the source stands, the rest as it was
  have j0 : Src s c H := gd.jo
  have dom0 : ∀ {H' : Hp} {l m t : Int} {ns : List Int}, (∀ b, b ≠ s → b ≠ c → H' b = H b) → H' s = some (.dK (srcKvs c l m t)) → H' c = some (.lst (ns.map V.int)) → To (some (s, c)) H H' := fun {H' l m t ns} k e1 e2 =>
    { kp := fun b o n e => by
        have n1 : b ≠ s := fun z => n (by rw [z]; exact List.mem_cons_self)
        have n2 : b ≠ c := fun z => n (by rw [z]; exact List.mem_cons_of_mem _ List.mem_cons_self)
        rw [k b n1 n2]
        exact e
      dom := fun b h z => by
        by_cases n1 : b = s
        · rw [n1, e1] at z; cases z
        · by_cases n2 : b = c
          · rw [n2, e2] at z; cases z
          · rw [k b n1 n2] at z; exact h z
      jo := fun _ => ⟨j0.1, l, m, t, ns, e1, e2⟩ }
  have done : ∀ {H' : Hp} {l m t : Int} {ns : List Int} (r : Int), (∀ b, b ≠ s → b ≠ c → H' b = H b) → H' s = some (.dK (srcKvs c l m t)) → H' c = some (.lst (ns.map V.int)) → 0 ≤ r → r < many ∨ r = 0 → Q (.int r) H' :=
    fun {H' l m t ns} r k e1 e2 h0 h1 => hQ _ _ H' (dom0 k e1 e2) rd_int (hφ r h0 h1)
  have nsc : s ≠ c := j0.1
  obtain ⟨_, l0, m0, t0, ns0, es0, ec0⟩ := id j0
  have gL : ∀ {H' : Hp} {l m t : Int}, H' s = some (.dK (srcKvs c l m t)) → DGet H' s (kV kL) (some (.int l)) := fun {H' l m t} e => by
    have q := DGet.k (k := kL) e
    rw [valL] at q
    exact q
  have gC : ∀ {H' : Hp} {l m t : Int}, H' s = some (.dK (srcKvs c l m t)) → DGet H' s (kV kC) (some (.ref c)) := fun {H' l m t} e => by
    have q := DGet.k (k := kC) e
    rw [valC] at q
    exact q
  have gM : ∀ {H' : Hp} {l m t : Int}, H' s = some (.dK (srcKvs c l m t)) → DGet H' s (kV kM) (some (.int m)) := fun {H' l m t} e => by
    have q := DGet.k (k := kM) e
    rw [valM] at q
    exact q
  have gT : ∀ {H' : Hp} {l m t : Int}, H' s = some (.dK (srcKvs c l m t)) → DGet H' s (kV kT) (some (.int t)) := fun {H' l m t} e => by
    have q := DGet.k (k := kT) e
    rw [valT] at q
    exact q
  have pL : ∀ {H' : Hp} {l m t : Int} (x : Int), H' s = some (.dK (srcKvs c l m t)) → DPut H' s (kV kL) (.int x) (upd H' s (.dK (srcKvs c x m t))) := fun {H' l m t} x e => by
    have q := DPut.k (k := kL) (v := .int x) e srcLen
    rw [putL] at q
    exact q
  have pM : ∀ {H' : Hp} {l m t : Int} (x : Int), H' s = some (.dK (srcKvs c l m t)) → DPut H' s (kV kM) (.int x) (upd H' s (.dK (srcKvs c l x t))) := fun {H' l m t} x e => by
    have q := DPut.k (k := kM) (v := .int x) e srcLen
    rw [putM] at q
    exact q
  have pT : ∀ {H' : Hp} {l m t : Int} (x : Int), H' s = some (.dK (srcKvs c l m t)) → DPut H' s (kV kT) (.int x) (upd H' s (.dK (srcKvs c l m x))) := fun {H' l m t} x e => by
    have q := DPut.k (k := kT) (v := .int x) e srcLen
    rw [putT] at q
    exact q
  have offS : ∀ {H' : Hp} {o : HO}, (∀ b, b ≠ s → b ≠ c → H' b = H b) → ∀ b, b ≠ s → b ≠ c → (upd H' s o) b = H b := fun {H' o} k b n1 n2 => by rw [upd_ne n1]; exact k b n1 n2
  have offC : ∀ {H' : Hp} {o : HO}, (∀ b, b ≠ s → b ≠ c → H' b = H b) → ∀ b, b ≠ s → b ≠ c → (upd H' c o) b = H b := fun {H' o} k b n1 n2 => by rw [upd_ne n2]; exact k b n1 n2
  have mz : ∀ d : Int, 1 ≤ d → d < 1000000000 → CDiv 0 d := fun d h1 h2 => ⟨by omega, by omega⟩
  refine while_q (fun σ H' => ∃ (l m t : Int) (ns : List Int), σ = [some (.ref s), some (.int many), none, none] ∧ (∀ b, b ≠ s → b ≠ c → H' b = H b) ∧ H' s = some (.dK (srcKvs c l m t)) ∧ H' c = some (.lst (ns.map V.int)))
    (fun _ H' => match H' c with | some (.lst xs) => xs.length | _ => 0) ⟨l0, m0, t0, ns0, rfl, fun _ _ _ => rfl, es0, ec0⟩ ?_ ?_
  · rintro σ H' ⟨l, m, t, ns, rfl, k, es, ec⟩
    refine ⟨_, rfl, s, _, rfl, gL es, ?_⟩
    -- many < 2 or left > 1
    refine ⟨_, rfl, _, _, rfl, rfl, _, rfl, ?_⟩
    have mxv : ∃ d : Int, (if many > 1 then many else 1) = d ∧ 1 ≤ d ∧ d < 1000000000 ∧ (d = many ∨ d = 1) := ⟨_, rfl, by split <;> omega, by split <;> omega, by split <;> omega⟩
    obtain ⟨d, ed, d1, d2, d3⟩ := mxv
    have cd : CDiv l d := ⟨by omega, by omega⟩
    have bound : ∀ x : Int, 0 ≤ x % d ∧ (x % d < many ∨ x % d = 0) := fun x => by
      have g1 := Int.emod_nonneg x (show d ≠ 0 by omega)
      have g2 := Int.emod_lt_of_pos x (show 0 < d by omega)
      refine ⟨g1, ?_⟩
      rcases d3 with e | e
      · exact .inl (by omega)
      · exact .inr (by omega)
    have es2 : ∀ (x : Int), (upd H' s (.dK (srcKvs c x m t))) s = some (.dK (srcKvs c x m t)) := fun x => upd_same
    have ec2 : ∀ (o : HO), (upd H' s o) c = some (.lst (ns.map V.int)) := fun o => by rw [upd_ne nsc.symm]; exact ec
    by_cases h1 : many < 2
    · rw [decide_eq_true h1]
      refine iteT (iteT ?_)
      refine ⟨_, rfl, _, rfl, _, _, rfl, _, _, rfl, rfl, by rw [ed]; exact cd, _, rfl, s, _, rfl, pL _ es, ?_⟩
      refine ⟨_, rfl, .inl ⟨_, rfl, _, rfl, _, _, rfl, _, _, rfl, rfl, by rw [ed]; omega, ?_⟩⟩
      rw [ed]
      exact done _ (offS k) upd_same (ec2 _) (bound l).1 (bound l).2
    · rw [decide_eq_false h1]
      refine iteF ⟨_, rfl, _, _, rfl, rfl, _, rfl, ?_⟩
      by_cases h2 : 1 < l
      · rw [decide_eq_true h2]
        refine iteT ?_
        refine ⟨_, rfl, _, rfl, _, _, rfl, _, _, rfl, rfl, by rw [ed]; exact cd, _, rfl, s, _, rfl, pL _ es, ?_⟩
        refine ⟨_, rfl, .inl ⟨_, rfl, _, rfl, _, _, rfl, _, _, rfl, rfl, by rw [ed]; omega, ?_⟩⟩
        rw [ed]
        exact done _ (offS k) upd_same (ec2 _) (bound l).1 (bound l).2
      · rw [decide_eq_false h2]
        refine iteF ?_
        -- turn, then mixed
        refine ⟨_, rfl, s, _, rfl, gT es, _, _, rfl, rfl, _, rfl, s, _, rfl, pT _ es, ?_⟩
        have e1 : (upd H' s (.dK (srcKvs c l m (t + 1)))) s = some (.dK (srcKvs c l m (t + 1))) := upd_same
        refine ⟨_, rfl, s, _, rfl, gM e1, _, rfl, s, _, rfl, gT e1, _, _, rfl, rfl, .inr ⟨by omega, by omega⟩, _, _, rfl, rfl, .inl ⟨_, rfl, _, _, rfl, rfl, by show (0 : Int) < 998244353; omega, ?_⟩⟩
        refine ⟨_, rfl, _, rfl, _, _, rfl, rfl, .inl ⟨by omega, by omega⟩, _, rfl, s, _, rfl, gT e1, _, _, rfl, rfl, .inr ⟨by omega, by omega⟩, _, _, rfl, rfl, .inl ⟨_, rfl, _, _, rfl, rfl, by show (0 : Int) < 2147483647; omega, ?_⟩⟩
        refine ⟨_, rfl, _, rfl, s, _, rfl, pM _ e1, ?_⟩
        refine ⟨_, rfl, _, _, rfl, rfl, ⟨by omega, by omega⟩, .inl ⟨_, rfl, _, rfl, _, _, rfl, rfl, by omega, ?_⟩⟩
        have many2 : d = many := by
          rcases d3 with e | e
          · exact e
          · rw [← ed] at e
            rw [if_pos (by omega)] at e
            omega
        have bm : ∀ x : Int, 0 ≤ x % many ∧ (x % many < many ∨ x % many = 0) := fun x => by
          have b := bound x
          rw [many2] at b
          exact b
        exact done _ (offS (offS k)) upd_same (by rw [upd_ne nsc.symm]; exact ec2 _) (bm _).1 (bm _).2
  · rintro hx σ H' ⟨l, m, t, ns, rfl, k, es, ec⟩
    refine ⟨_, rfl, _, _, rfl, rfl, _, rfl, ?_⟩
    by_cases h1 : 1 < many
    · rw [decide_eq_true h1]
      refine iteT ⟨_, rfl, s, _, rfl, gL es, _, _, rfl, rfl, _, rfl, ?_⟩
      by_cases h2 : l < 2
      · rw [decide_eq_true h2]
        refine iteT ⟨_, rfl, s, _, rfl, gC es, _, _, rfl, .inl ⟨_, SqL.of ec, rfl⟩, _, _, rfl, rfl, _, rfl, ?_⟩
        by_cases h3 : 0 < ns.length
        · rw [decide_eq_true (by simpa using h3)]
          refine iteT ⟨fun σ' H2 => (match H2 c with | some (.lst xs) => xs.length | _ => 0) < ns.length ∧ ∃ (l m t : Int) (ns : List Int), σ' = [some (.ref s), some (.int many), none, none] ∧ (∀ b, b ≠ s → b ≠ c → H2 b = H b) ∧ H2 s = some (.dK (srcKvs c l m t)) ∧ H2 c = some (.lst (ns.map V.int)), fun σ' H2 h => ⟨_, ?_, rfl, h.2⟩, ?_⟩
          · rw [ec]
            simpa using h.1
          · have hl : (ns.map V.int)[(ns.map V.int).length - 1]? = some (.int (ns.getLast (List.ne_nil_of_length_pos h3))) := by
              rw [List.length_map, List.getElem?_map, List.getLast_eq_getElem]
              simp [h3]
            refine ⟨_, rfl, s, _, rfl, gC es, .inl ⟨rfl, _, SqL.of ec⟩, c, _, _, rfl, rfl, ec, hl, _, rfl, s, _, rfl, pL _ (by rw [upd_ne nsc]; exact es), ?_⟩
            have ec2 : (upd (upd H' c (.lst (ns.map V.int).dropLast)) s (.dK (srcKvs c (ns.getLast (List.ne_nil_of_length_pos h3)) m t))) c = some (.lst (ns.dropLast.map V.int)) := by
              rw [upd_ne nsc.symm, upd_same, List.map_dropLast]
            refine ⟨?_, _, m, t, ns.dropLast, rfl, offS (offC k), upd_same, ec2⟩
            rw [ec2]
            simp
            omega
        · rw [decide_eq_false (by simpa using h3)]
          exact iteF (hx _ _ ⟨l, m, t, ns, rfl, k, es, ec⟩)
      · rw [decide_eq_false h2]
        exact iteF (iteF (hx _ _ ⟨l, m, t, ns, rfl, k, es, ec⟩))
    · rw [decide_eq_false h1]
      exact iteF (iteF (hx _ _ ⟨l, m, t, ns, rfl, k, es, ec⟩))

def ledN (deeds : List (List Nat)) (word : List Nat) (p : Nat) : Nat := word.foldl (fun p l => (deeds.getD l []).getD p 0) p
abbrev bookD (n : Nat) (deeds : List (List Nat)) : PD := .tuple [nI n, .tuple (deeds.map tN)]
structure BookN (n : Nat) (deeds : List (List Nat)) : Prop where
  len : ∀ d ∈ deeds, d.length = n
  lt : ∀ d ∈ deeds, ∀ x ∈ d, x < n
theorem getD_mem {α : Type} {l : List α} {i : Nat} {d : α} (h : i < l.length) : l.getD i d ∈ l := by
  rw [List.getD_eq_getElem?_getD, List.getElem?_eq_getElem h]
  exact List.getElem_mem h
theorem ledN_lt {n : Nat} {deeds : List (List Nat)} (B : BookN n deeds) : ∀ {word : List Nat} {p : Nat}, (∀ l ∈ word, l < deeds.length) → p < n → ledN deeds word p < n
  | [], _, _, h => h
  | l :: word, p, hw, h => by
    have hm : deeds.getD l [] ∈ deeds := getD_mem (hw l List.mem_cons_self)
    refine ledN_lt B (word := word) (fun x hx => hw x (List.mem_cons_of_mem _ hx)) ?_
    exact B.lt _ hm _ (getD_mem (by rw [B.len _ hm]; exact h))
/-- _law_led(book, word, place) -/
def fs__law_led : FS := fun ds φ => ∃ (n : Nat) (deeds : List (List Nat)) (word : List Nat) (p : Nat), ds = [.dat (bookD n deeds), .dat (tN word), .dat (nI p)] ∧ BookN n deeds ∧ (∀ l ∈ word, l < deeds.length) ∧ p < n ∧ φ (.dat (nI (ledN deeds word p)))
theorem ok__law_led (T : Tx K mg) : FnG P w K mg base CX0 1 T.f__law_led T.d__law_led ["book", "word", "place"] (spD K 3 fs__law_led) := by
  refine okD T.F__law_led sc__law_led fun cdv A outer s H E grd room => ⟨_, (dss_cons (ds_for PassesOwn.never (di_seq (dv 1)) (dg_name (i := 3) sc__law_led.nd) (dss_one (ds_set (i := 2) sc__law_led.nd (de_ix (de_ix (de_ix (dv 0) de_int) (dv 3)) (dv 2)))))
    (dss_one (ds_ret (dv 2)))), fun ds φ hl hf => ?_⟩
  obtain ⟨n, deeds, word, p, rfl, B, hw, hp, h⟩ := hf
  walk_at "w0"
  refine wFor_n (l := word) (by intro ψ q; walk_at "w0"; exact q) (fun i ρ => ∃ o, ρ = [some (.dat (bookD n deeds)), some (.dat (tN word)), some (.dat (nI (ledN deeds (word.take i) p))), o]) ⟨_, rfl⟩ ?_ ?_
  · rintro i l ρ e ⟨o, rfl⟩
    have hl := hw l (List.mem_of_getElem? e)
    have hm : deeds.getD l [] ∈ deeds := getD_mem hl
    have hx : deeds[l]? = some (deeds.getD l []) := by simp [hl]
    have k := ledN_lt B (word := word.take i) (fun x hx => hw x (List.mem_of_mem_take hx)) hp
    walk_at "w0"
    refine ⟨_, rfl, _, rfl, _, atD_map (f := tN) hx, _, rfl, ?_⟩
    rw [atD_N (by rw [B.len _ hm]; exact k), List.take_add_one, e]
    simp [ledN]
  · rintro ρ ⟨o, rfl⟩
    walk_at "w0"
    rw [List.take_length]
    exact h

/-- done(book, word) -/
def doneN (n : Nat) (deeds : List (List Nat)) (word : List Nat) : List Nat := word.foldl (fun d l => mulN d (deeds.getD l [])) (List.range n)
theorem doneN_step (n : Nat) (deeds : List (List Nat)) (word : List Nat) (l : Nat) : doneN n deeds (word ++ [l]) = mulN (doneN n deeds word) (deeds.getD l []) := by
  simp [doneN]
theorem doneN_ok {n : Nat} {deeds : List (List Nat)} (B : BookN n deeds) {word : List Nat} (hw : ∀ l ∈ word, l < deeds.length) : (doneN n deeds word).length = n ∧ ∀ x ∈ doneN n deeds word, x < n := by
  have key : ∀ (word : List Nat) (d : List Nat), (∀ l ∈ word, l < deeds.length) → d.length = n → (∀ x ∈ d, x < n) → (word.foldl (fun d l => mulN d (deeds.getD l [])) d).length = n ∧ ∀ x ∈ word.foldl (fun d l => mulN d (deeds.getD l [])) d, x < n := fun word => by
    induction word with
    | nil => exact fun d _ h1 h2 => ⟨h1, h2⟩
    | cons l word ih =>
      intro d h h1 h2
      have hm : deeds.getD l [] ∈ deeds := getD_mem (h l List.mem_cons_self)
      refine ih _ (fun x hx => h x (List.mem_cons_of_mem _ hx)) (by rw [mulN_len, h1]) ?_
      exact mulN_lt (fun x hx => by rw [B.len _ hm]; exact h2 x hx) (B.lt _ hm)
  exact key word _ hw (by simp) (fun x hx => List.mem_range.mp hx)
def fs_done : FS := fun ds φ => ∃ (n : Nat) (deeds : List (List Nat)) (word : List Nat), ds = [.dat (bookD n deeds), .dat (tN word)] ∧ n ≤ 100000 ∧ BookN n deeds ∧ (∀ l ∈ word, l < deeds.length) ∧ φ (.dat (tN (doneN n deeds word)))
theorem ok_done (T : Tx K mg) : FnG P w K mg base CX0 2 T.f_done T.d_done ["book", "word"] (spD K 2 fs_done) := by
  refine okD T.F_done sc_done fun cdv A outer s H E grd room => ⟨_, (dss_cons (ds_asg (dv 0) (dg_tup (n := 2) rfl (dgs_cons (dg_name (i := 2) sc_done.nd) (dgs_cons (dg_name (i := 3) sc_done.nd) dgs_nil))))
    (dss_cons (ds_set (i := 4) sc_done.nd (de_call (ok_idle T) grd (room.mono (by decide)) rfl T.m_idle T.F_idle.kp T.b_idle (da_cons (dv 2) da_nil)))
    (dss_cons (ds_for PassesOwn.never (di_seq (dv 1)) (dg_name (i := 5) sc_done.nd) (dss_one (ds_set (i := 4) sc_done.nd (de_call (ok_product T) grd (room.mono (by decide)) rfl T.m_product T.F_product.kp T.b_product (da_cons (dv 4) (da_cons (de_ix (dv 3) (dv 5)) da_nil))))))
    (dss_one (ds_ret (dv 4)))))), fun ds φ hl hf => ?_⟩
  obtain ⟨n, deeds, word, rfl, hn, B, hw, h⟩ := hf
  walk_at "w0"
  refine ⟨n, rfl, hn, ?_⟩
  walk_at "w0"
  refine wFor_n (l := word) (by intro ψ q; walk_at "w0"; exact q) (fun i ρ => ∃ o, ρ = [some (.dat (bookD n deeds)), some (.dat (tN word)), some (.dat (nI n)), some (.dat (.tuple (deeds.map tN))), some (.dat (tN (doneN n deeds (word.take i)))), o]) ⟨_, rfl⟩ ?_ ?_
  · rintro i l ρ e ⟨o, rfl⟩
    have hl := hw l (List.mem_of_getElem? e)
    have hm : deeds.getD l [] ∈ deeds := getD_mem hl
    have hx : deeds[l]? = some (deeds.getD l []) := by simp [hl]
    obtain ⟨k1, k2⟩ := doneN_ok B (word := word.take i) fun x hx => hw x (List.mem_of_mem_take hx)
    walk_at "w0"
    refine ⟨_, atD_map (f := tN) hx, _, _, rfl, by rw [k1]; exact hn, fun x hx => by rw [B.len _ hm]; exact k2 x hx, ?_⟩
    rw [List.take_add_one, e]
    exact congrArg (fun z => DV.dat (tN z)) (doneN_step n deeds (word.take i) l).symm
  · rintro ρ ⟨o, rfl⟩
    walk_at "w0"
    rw [List.take_length]
    exact h

/-- rank(deed) -/
def fs_rank : FS := fun ds φ => ∃ (n : Nat) (a : List Nat), ds = [.dat (tN a)] ∧ a.length < 64 ∧ (∀ x ∈ a, x < n) ∧ φ (di ((reachN n a).length : Nat))
theorem ok_rank (T : Tx K mg) : FnG P w K mg base CX0 2 T.f_rank T.d_rank ["deed"] (spD K 1 fs_rank) := by
  refine okD T.F_rank sc_rank fun cdv A outer s H E grd room => ⟨_, (dss_one (ds_ret (de_callB b_len rfl T.z_len (by decide +kernel) (da_cons (de_call (ok_reach T) grd (room.mono (by decide)) rfl T.m_reach T.F_reach.kp T.b_reach (da_cons (dv 0) da_nil)) da_nil)))), fun ds φ hl hf => ?_⟩
  obtain ⟨n, a, rfl, hl, hn, h⟩ := hf
  walk_at "w0"
  refine ⟨n, a, rfl, hl, hn, ?_⟩
  walk_at "w0"
  exact h

/-- is_settled(deed) -/
def fs_is_settled : FS := fun ds φ => ∃ a : List Nat, ds = [.dat (tN a)] ∧ a.length ≤ 100000 ∧ (∀ x ∈ a, x < a.length) ∧ φ (db (decide (mulN a a = a)))
theorem ok_is_settled (T : Tx K mg) : FnG P w K mg base CX0 2 T.f_is_settled T.d_is_settled ["deed"] (spD K 1 fs_is_settled) := by
  refine okD T.F_is_settled sc_is_settled fun cdv A outer s H E grd room => ⟨_, (dss_one (ds_ret (de_cmp (o_eqA room) (de_call (ok_product T) grd (room.mono (by decide)) rfl T.m_product T.F_product.kp T.b_product (da_cons (dv 0) (da_cons (dv 0) da_nil))) (dv 0)))), fun ds φ hl hf => ?_⟩
  obtain ⟨a, rfl, hl, hn, h⟩ := hf
  walk_at "w0"
  refine ⟨a, a, rfl, hl, hn, ?_⟩
  walk_at "w0"
  have f1 := fine_tN (l := mulN a a) fun x hx => by
    have := mulN_lt hn hn x hx
    omega
  have f2 := fine_tN (l := a) fun x hx => by
    have := hn x hx
    omega
  refine ⟨f1.shaped, f2.shaped, ?_⟩
  exact h

/-- _law_of(source, things) -/
def fs__law_of : FS := fun ds φ => ∃ d xs, ds = [.src, d] ∧ seqD d = some xs ∧ 0 < xs.length ∧ xs.length < 1000000000 ∧ ∀ x ∈ xs, φ (.dat x)
theorem ok__law_of (T : Tx K mg) : FnG P w K mg base CX0 2 T.f__law_of T.d__law_of ["source", "things"] (spD K 2 fs__law_of) := by
  refine okD T.F__law_of sc__law_of fun cdv A outer s H E grd room => ⟨_, (dss_one (ds_ret (de_ix (dv 1) (de_call (ok__law_pick T) grd (room.mono (by decide)) rfl T.m__law_pick T.F__law_pick.kp T.b__law_pick (da_cons (dv 0) (da_cons (de_callB b_len rfl T.z_len (by decide +kernel) (da_cons (dv 1) da_nil)) da_nil)))))), fun ds φ hl hf => ?_⟩
  obtain ⟨d, xs, rfl, e, h0, h1, h⟩ := hf
  walk_at "w0"
  refine ⟨_, e, _, rfl, by omega, fun k r1 => ?_⟩
  have hr : k < xs.length := by omega
  refine ⟨_, e, _, rfl, xs[k], ?_, h _ (List.getElem_mem hr)⟩
  unfold atD
  rw [ixN_nat' hr]
  simp [hr]

-- RAW
/-- _law_mixed(source, things): a new list, an arrangement -/
def fs__law_mixed : FS := fun ds φ => ∃ d xs, ds = [.src, d] ∧ seqD d = some xs ∧ xs.length ≤ 1000000 ∧ ∀ ys, xs.Perm ys → φ (.dat (.list ys))
theorem ok__law_mixed (T : Tx K mg) : FnG P w K mg base CX0 2 T.f__law_mixed T.d__law_mixed ["source", "things"] (spD K 2 fs__law_mixed) := by
  have nd := sc__law_mixed.nd
  refine okG0 T.F__law_mixed sc__law_mixed (fun vs H Q E h => h.1) (fun cdv A outer s0 H vs Q E grd room h => ?_)
  obtain ⟨_, M, So, ds, φ, gd, rel, ⟨d, xs, rfl, eq, hlen, hφ⟩, hQ⟩ := h
  obtain ⟨v1, v2, rfl, ⟨s, c, rfl, rfl⟩, r2⟩ := rds2 rel
  obtain ⟨a, us, rfl, sq, hs⟩ := r2.seq eq
  refine ⟨_, pss_cons (ps_set (i := 2) nd rfl (Or.inr rfl) (pe_callTy call_list_of (by rfl) T.z_list (by decide +kernel) (pa_cons (pv 1) pa_nil)))
    (pss_one (ps_ret (pe_lc (own := [("lap", 3)]) (g := gName 3) (tt := tYes) (te := tBM K "list" rPopAt (tVar 2) (tCons (tCall (spD K 2 fs__law_pick) [] E0 (tCons (tVar 0) (tCons (tCB (fun xs H Q => ∃ x n, xs = [x] ∧ LenV K x H n ∧ Q (.int n) H) (tCons (tVar 2) tNil)) tNil))) tNil)) rfl nd (pi_range1 rfl T.z_range (pa_cons (pe_callB call_len (by rfl) T.z_len (by decide +kernel) (pa_cons (pv 2) pa_nil)) pa_nil))
      (blkOk_by (N := ["source", "things", "rest", "lap"]) (sc := defScope s__law_mixed) (by decide +kernel)) (fun _ _ _ _ _ => pg_name (i := 3) nd rfl (Or.inl rfl)) (fun _ _ _ _ _ => pts_nil)
      (fun _ _ _ _ _ => pe_bm PySem.F.plainAttrs_list PySem.F.slot_list_pop PySem.F.type_list_pop mt_popAt (pv 2)
        (pa_cons (callG (E := E0) (ok__law_pick T) grd (room.mono (by decide)) (by rfl) T.m__law_pick T.F__law_pick.kp T.b__law_pick (fun _ _ _ _ _ _ _ h => False.elim h) (pa_cons (pv 0) (pa_cons (pe_callB call_len (by rfl) T.z_len (by decide +kernel) (pa_cons (pv 2) pa_nil)) pa_nil))) pa_nil)))))
    , ?_⟩
  have ulen : us.length = xs.length := dps_len hs
  refine ⟨_, rfl, a, us, rfl, sq, fun p hp => ?_⟩
  have h0 : (upd H p (.lst us)) p = some (.lst us) := upd_same
  refine ⟨_, rfl, _, _, rfl, .inl ⟨_, SqL.of h0, rfl⟩, _, rfl, by omega, by omega, fun D hD => ?_⟩
  have hDp : D ≠ p := fun e => by rw [e, upd_same] at hD; cases hD
  have hD0 : H D = none := by rw [upd_ne hDp] at hD; exact hD
  refine lc_range (lo := 0) (n := us.length) (fun i H' => To (some (s, c)) H H' ∧ ∃ rem acc : List V, rem.length + i = us.length ∧ acc.length = i ∧ us.Perm (acc ++ rem) ∧ H' p = some (.lst rem) ∧ H' D = some (.lst acc)) ?_ ?_ ?_
  · exact ⟨(To.refl.off hp).off hD0, us, [], by simp, rfl, by simp, by rw [upd_ne hDp.symm]; exact h0, upd_same⟩
  · rintro i H' hi ⟨to, rem, acc, l1, l2, pm, e1, e2⟩
    have gd' := to.gd gd
    have nsp : p ≠ s := fun e => gd.dom s (gd.fo s List.mem_cons_self) (by rw [← e]; exact hp)
    have ncp : p ≠ c := fun e => gd.dom c (gd.fo c (List.mem_cons_of_mem _ List.mem_cons_self)) (by rw [← e]; exact hp)
    have nsD : D ≠ s := fun e => gd.dom s (gd.fo s List.mem_cons_self) (by rw [← e]; exact hD0)
    have ncD : D ≠ c := fun e => gd.dom c (gd.fo c (List.mem_cons_of_mem _ List.mem_cons_self)) (by rw [← e]; exact hD0)
    have notF : ∀ {x}, x ≠ s → x ≠ c → x ∉ Fo (some (s, c)) := fun {x} n1 n2 z => by
      rcases List.mem_cons.mp z with y | y
      · exact n1 y
      · exact n2 (List.mem_singleton.mp y)
    have rpos : 0 < rem.length := by omega
    refine ⟨rfl, ?_⟩
    refine ⟨_, rfl, .inl ⟨rfl, _, SqL.of e1⟩, ?_⟩
    refine ⟨_, rfl, _, rfl, _, _, rfl, .inl ⟨_, SqL.of e1, rfl⟩, ?_⟩
    refine ⟨rfl, M, some (s, c), [.src, di rem.length], fun dv => ∃ r : Int, dv = di r ∧ 0 ≤ r ∧ r < rem.length, gd', ⟨⟨s, c, rfl, rfl⟩, rd_int, trivial⟩, ⟨_, rfl, by omega, fun r r1 => ⟨r, rfl, by omega, by omega⟩⟩, ?_⟩
    rintro v _ H2 to2 rv ⟨r, rfl, r0, r1⟩
    have ev := rv.int
    subst ev
    have e1' : H2 p = some (.lst rem) := to2.kp p _ (notF nsp ncp) e1
    have e2' : H2 D = some (.lst acc) := to2.kp D _ (notF nsD ncD) e2
    have hr : r.toNat < rem.length := by omega
    have si : seqIndex? r rem.length = some r.toNat := PySem.StrLaws.seqIndex_nonneg r0 r1
    refine ⟨p, rem, r, r.toNat, rem[r.toNat], rfl, rfl, e1', by omega, by omega, si, by simp [hr], ?_⟩
    refine ⟨acc, by rw [upd_ne hDp]; exact e2', by rw [sizeLine_eq]; omega, ?_⟩
    refine ⟨((to.trans to2).off hp).off hD0, rem.eraseIdx r.toNat, acc ++ [rem[r.toNat]], ?_, by simp [l2], ?_, by rw [upd_ne hDp.symm, upd_same], upd_same⟩
    · rw [List.length_eraseIdx, if_pos hr]
      omega
    · refine pm.trans ?_
      rw [List.append_assoc]
      refine List.Perm.append_left _ ?_
      exact Vf.perm_erase hr
  · rintro H' ⟨to, rem, acc, l1, l2, pm, e1, e2⟩
    have rn : rem = [] := List.eq_nil_of_length_eq_zero (by omega)
    subst rn
    rw [List.append_nil] at pm
    have nDM : D ∉ M := gd.fresh hD0
    obtain ⟨es, q, r⟩ := perm_data pm hs
    refine hQ _ _ H' to ?_ (hφ es q)
    exact .lst (by rw [msk_out nDM]; exact e2) (dps_le (to.msk gd) r)

/-- _law_deed(source, n, way): some deed of n places -/
def fs__law_deed : FS := fun ds φ => ∃ (n : Nat) (way : Int), ds = [.src, di n, di way] ∧ 1 ≤ n ∧ n ≤ 1000 ∧ ∀ a : List Nat, a.length = n → (∀ x ∈ a, x < n) → φ (.dat (tN a))
theorem ok__law_deed (T : Tx K mg) : FnG P w K mg base CX0 3 T.f__law_deed T.d__law_deed ["source", "n", "way"] (spD K 3 fs__law_deed) := by
  refine okD T.F__law_deed sc__law_deed fun cdv A outer s H E grd room => ⟨_, (dss_cons (ds_if (dt_cmp (o_eqA room) (dv 2) de_int) (dss_one (ds_ret (de_callTy b_tuple rfl T.z_tuple (by decide +kernel) (da_cons (de_lc sc__law_deed.nd (di_rng1 rfl T.z_range (da_cons (dv 1) da_nil)) (blkOk_by (N := ["source", "n", "way", "kept", "p"]) (sc := defScope s__law_deed) (own := [("p", 4)]) (by decide +kernel)) rfl (fun _ _ _ _ _ => (dg_name (i := 4) sc__law_deed.nd)) (fun _ _ _ _ _ => dts_nil) (fun _ _ _ _ _ => (de_call (ok__law_pick T) grd (room.mono (by decide)) rfl T.m__law_pick T.F__law_pick.kp T.b__law_pick (da_cons (dv 0) (da_cons (de_op o_addA (dv 4) de_int) da_nil))))) da_nil)))) dss_nil)
    (dss_cons (ds_if (dt_cmp (o_eqA room) (dv 2) de_int) (dss_one (ds_ret (de_callTy b_tuple rfl T.z_tuple (by decide +kernel) (da_cons (de_callB b_sortI rfl T.z_sorted (by decide +kernel) (da_cons (de_lc sc__law_deed.nd (di_rng1 rfl T.z_range (da_cons (dv 1) da_nil)) (blkOk_by (N := ["source", "n", "way", "kept", "p"]) (sc := defScope s__law_deed) (own := [("p", 4)]) (by decide +kernel)) rfl (fun _ _ _ _ _ => (dg_name (i := 4) sc__law_deed.nd)) (fun _ _ _ _ _ => dts_nil) (fun _ _ _ _ _ => (de_callTy b_int rfl T.z_int (by decide +kernel) (da_cons (de_call (ok__law_pick T) grd (room.mono (by decide)) rfl T.m__law_pick T.F__law_pick.kp T.b__law_pick (da_cons (dv 0) (da_cons (dv 1) da_nil))) da_nil)))) da_nil)) da_nil)))) dss_nil)
    (dss_cons (ds_if (dt_cmp (o_eqA room) (dv 2) de_int) (dss_cons (ds_set (i := 3) sc__law_deed.nd (de_op o_addA (de_lc sc__law_deed.nd (di_rng1 rfl T.z_range (da_cons (dv 1) da_nil)) (blkOk_by (N := ["source", "n", "way", "kept", "p"]) (sc := defScope s__law_deed) (own := [("p", 4)]) (by decide +kernel)) rfl (fun _ _ _ _ _ => (dg_name (i := 4) sc__law_deed.nd)) (fun _ _ _ _ _ => (dts_one (dt_cmp (o_eqA room) (de_call (ok__law_pick T) grd (room.mono (by decide)) rfl T.m__law_pick T.F__law_pick.kp T.b__law_pick (da_cons (dv 0) (da_cons de_int da_nil))) de_int))) (fun _ _ _ _ _ => (dv 4))) (de_lst (da_cons (de_call (ok__law_pick T) grd (room.mono (by decide)) rfl T.m__law_pick T.F__law_pick.kp T.b__law_pick (da_cons (dv 0) (da_cons (dv 1) da_nil))) da_nil))))
    (dss_one (ds_ret (de_callTy b_tuple rfl T.z_tuple (by decide +kernel) (da_cons (de_lc sc__law_deed.nd (di_rng1 rfl T.z_range (da_cons (dv 1) da_nil)) (blkOk_by (N := ["source", "n", "way", "kept", "p"]) (sc := defScope s__law_deed) (own := [("p", 4)]) (by decide +kernel)) rfl (fun _ _ _ _ _ => (dg_name (i := 4) sc__law_deed.nd)) (fun _ _ _ _ _ => dts_nil) (fun _ _ _ _ _ => (de_if (dt_cmp o_in (dv 4) (dv 3)) (dv 4) (de_call (ok__law_of T) grd (room.mono (by decide)) rfl T.m__law_of T.F__law_of.kp T.b__law_of (da_cons (dv 0) (da_cons (dv 3) da_nil)))))) da_nil))))) dss_nil)
    (dss_cons (ds_if (dt_cmp (o_eqA room) (dv 2) de_int) (dss_one (ds_ret (de_callTy b_tuple rfl T.z_tuple (by decide +kernel) (da_cons (de_call (ok__law_mixed T) grd (room.mono (by decide)) rfl T.m__law_mixed T.F__law_mixed.kp T.b__law_mixed (da_cons (dv 0) (da_cons (de_rgL (dv 1) rfl T.z_list rfl T.z_range) da_nil))) da_nil)))) dss_nil)
    (dss_cons (ds_if (dt_cmp (o_eqA room) (dv 2) de_int) (dss_one (ds_ret (de_op o_mulA (de_tup (da_cons (de_call (ok__law_pick T) grd (room.mono (by decide)) rfl T.m__law_pick T.F__law_pick.kp T.b__law_pick (da_cons (dv 0) (da_cons (dv 1) da_nil))) da_nil)) (dv 1)))) dss_nil)
    (dss_one (ds_ret (de_callTy b_tuple rfl T.z_tuple (by decide +kernel) (da_cons (de_lc sc__law_deed.nd (di_rng1 rfl T.z_range (da_cons (dv 1) da_nil)) (blkOk_by (N := ["source", "n", "way", "kept", "p"]) (sc := defScope s__law_deed) (own := [("p", 4)]) (by decide +kernel)) rfl (fun _ _ _ _ _ => (dg_name (i := 4) sc__law_deed.nd)) (fun _ _ _ _ _ => dts_nil) (fun _ _ _ _ _ => (de_call (ok__law_pick T) grd (room.mono (by decide)) rfl T.m__law_pick T.F__law_pick.kp T.b__law_pick (da_cons (dv 0) (da_cons (dv 1) da_nil))))) da_nil))))))))), fun ds φ hl hf => ?_⟩
  obtain ⟨n, way, rfl, h1, h2, h⟩ := hf
  have sz : (List.range n).length ≤ sizeLine := by rw [List.length_range, sizeLine_eq]; omega
  have fin : ∀ ys : List Nat, ys.length = (List.range n).length → (∀ (i x y : Nat), (List.range n)[i]? = some x → ys[i]? = some y → y < n) → φ (.dat (tN ys)) := fun ys e1 e2 => by
    have len : ys.length = n := by rw [e1, List.length_range]
    refine h ys len fun y hy => ?_
    obtain ⟨i, hi, e⟩ := List.mem_iff_getElem.mp hy
    exact e2 i i y (List.getElem?_range (by omega)) (by rw [← e]; simp [hi])
  walk_at "w0"
  refine ite2 (fun _ => ?_) (fun _ => ?_)
  · refine wLc_nany (l := List.range n) (fun _ y => y < n) (hiR (by omega) (by intro χ q; walk_at "w0"; exact q)) sz (fun p hp ψ q => ?_) fun ys e1 e2 => ?_
    · have := List.mem_range.mp hp
      walk_at "w0"
      exact ⟨_, rfl, by omega, fun r hr => q r (by omega)⟩
    · exact ⟨_, rfl, fin ys e1 e2⟩
  refine ite2 (fun _ => ?_) (fun _ => ?_)
  · refine wLc_nany (l := List.range n) (fun _ y => y < n) (hiR (by omega) (by intro χ q; walk_at "w0"; exact q)) sz (fun p hp ψ q => ?_) fun ys e1 e2 => ?_
    · walk_at "w0"
      exact ⟨_, rfl, by omega, fun r hr => .inl ⟨_, rfl, q r (by omega)⟩⟩
    · refine ⟨ys.map fun i : Nat => (i : Int), by rw [map_nI]; rfl, fun ns' pm _ => ?_⟩
      obtain ⟨zs, rfl, pz⟩ := nats_perm pm
      rw [map_nI]
      have lz : zs.length = n := by rw [pz.length_eq, e1, List.length_range]
      have mz : ∀ x ∈ zs, x < n := fun x hx => by
        obtain ⟨i, hi, e⟩ := List.mem_iff_getElem.mp (pz.mem_iff.mp hx)
        exact e2 i i x (List.getElem?_range (by rw [e1, List.length_range] at hi; exact hi)) (by rw [← e]; simp [hi])
      exact h zs lz mz
  refine ite2 (fun _ => ?_) (fun _ => ?_)
  · refine wLc_nsub (l := List.range n) (hiR (by omega) (by intro χ q; walk_at "w0"; exact q)) sz (fun p hp ψ q => ?_) (fun p hp ψ q => ?_) fun ys e1 e2 => ?_
    · walk_at "w0"
      refine ⟨_, rfl, by omega, fun r hr => ?_⟩
      walk_at "w0"
      exact q _
    · walk_at "w0"
      exact q
    · refine ⟨_, rfl, by omega, fun k hk => ?_⟩
      walk_at "w0"
      rw [List.length_range] at e1
      refine ⟨by first | (rw [List.length_map, sizeLine_eq]; omega) | omega, ?_⟩
      have e3 : ys.map nI ++ [nI k] = (ys ++ [k]).map nI := by simp
      rw [e3]
      have mz : ∀ y ∈ ys ++ [k], y < n := fun y hy => by
        rcases List.mem_append.mp hy with z | z
        · exact List.mem_range.mp (e2 y z)
        · rw [List.mem_singleton.mp z]; omega
      refine wLc_nany (l := List.range n) (fun _ y => y < n) (hiR (by omega) (by intro χ q; walk_at "w0"; exact q)) sz (fun p hp ψ q => ?_) fun zs g1 g2 => ?_
      · have := List.mem_range.mp hp
        walk_at "w0"
        refine ⟨rfl, all_flat_N _, ?_⟩
        refine ite2 (fun _ => q p this) (fun _ => ?_)
        refine ⟨_, _, rfl, rfl, by simp, by simp; omega, fun x hx => ?_⟩
        obtain ⟨y, hy, rfl⟩ := List.mem_map.mp hx
        exact q y (mz y hy)
      · exact ⟨_, rfl, fin zs g1 g2⟩
  refine ite2 (fun _ => ?_) (fun _ => ?_)
  · refine ⟨by omega, by omega, _, _, rfl, rfl, by rw [Int.toNat_natCast, rng_len]; omega, fun ys pm => ?_⟩
    walk_at "w0"
    rw [Int.toNat_natCast, rng_eq] at pm
    have e3 : ∃ zs : List Nat, ys = zs.map nI ∧ zs.Perm (List.range n) := by
      refine ⟨ys.map ofInt, ?_, ?_⟩
      · rw [List.map_map]
        refine (List.map_id _).symm.trans (List.map_congr_left fun x hx => ?_)
        obtain ⟨i, _, rfl⟩ := List.mem_map.mp (pm.mem_iff.mpr hx)
        simp [ofInt]
      · have q := (pm.map ofInt).symm
        rw [List.map_map] at q
        have e : (ofInt ∘ nI) = id := by
          funext i
          simp [ofInt]
        rw [e, List.map_id] at q
        exact q
    obtain ⟨zs, rfl, pz⟩ := e3
    exact h zs (by rw [pz.length_eq, List.length_range]) fun x hx => List.mem_range.mp (pz.mem_iff.mp hx)
  refine ite2 (fun _ => ?_) (fun _ => ?_)
  · refine ⟨_, rfl, by omega, fun k hk => ?_⟩
    walk_at "w0"
    refine ⟨(fun z => nomatch z), by omega, by omega, ?_⟩
    have e3 : (List.replicate ((n : Nat) : Int).toNat [nI k]).flatten = (List.replicate n k).map nI := by
      rw [Int.toNat_natCast, List.map_replicate]
      exact List.flatten_replicate_singleton
    rw [e3]
    exact h _ (by simp) fun x hx => by
      rw [(List.mem_replicate.mp hx).2]
      omega
  · refine wLc_nany (l := List.range n) (fun _ y => y < n) (hiR (by omega) (by intro χ q; walk_at "w0"; exact q)) sz (fun p hp ψ q => ?_) fun ys e1 e2 => ?_
    · walk_at "w0"
      exact ⟨_, rfl, by omega, fun r hr => q r (by omega)⟩
    · exact ⟨_, rfl, fin ys e1 e2⟩

/-- _law_deed_right(deed) -/
def fs__law_deed_right : FS := fun ds φ => ∃ a : List Nat, ds = [.dat (tN a)] ∧ a.length ≤ 60 ∧ (∀ x ∈ a, x < a.length) ∧ φ (db true)
theorem fibre_in {a : List Nat} {q : Nat} : (!decide (((List.range a.length).filter fun p => decide (a.getD p 0 = q)).map nI = [])) = decide (q ∈ a) := by
  rw [Bool.eq_iff_iff]
  simp only [Bool.not_eq_true', decide_eq_false_iff_not, decide_eq_true_eq, List.map_eq_nil_iff]
  constructor
  · intro h
    obtain ⟨p, hp⟩ := List.exists_mem_of_ne_nil _ h
    obtain ⟨h1, h2⟩ := List.mem_filter.mp hp
    rw [decide_eq_true_eq] at h2
    rw [← h2]
    exact getD_mem (List.mem_range.mp h1)
  · intro h e
    obtain ⟨p, hp, he⟩ := List.mem_iff_getElem.mp h
    have : p ∈ (List.range a.length).filter fun p => decide (a.getD p 0 = q) := List.mem_filter.mpr ⟨List.mem_range.mpr hp, by simp [hp, he]⟩
    rw [e] at this
    cases this
def twiceB (a : List Nat) : Bool := decide (((List.range a.length).filter fun p => !decide (a.getD (a.getD p 0) 0 = a.getD p 0)) = [])
theorem twice_iff {a : List Nat} : twiceB a = true ↔ ∀ p < a.length, a.getD (a.getD p 0) 0 = a.getD p 0 := by
  unfold twiceB
  rw [decide_eq_true_eq, List.filter_eq_nil_iff]
  constructor
  · intro h p hp
    have := h p (List.mem_range.mpr hp)
    simpa using this
  · intro h p hp
    rw [h p (List.mem_range.mp hp)]
    simp
theorem twice_settled {a : List Nat} : decide (mulN a a = a) = twiceB a := by
  rw [Bool.eq_iff_iff, decide_eq_true_eq, twice_iff]
  unfold mulN
  constructor
  · intro h p hp
    have e1 : (a.map fun x => a.getD x 0)[p]? = some (a.getD (a.getD p 0) 0) := by simp [hp]
    rw [show (a.map fun x => a.getD x 0) = a from h] at e1
    have e2 : a[p]? = some (a.getD p 0) := by simp [hp]
    rw [e2] at e1
    exact (Option.some.inj e1).symm
  · intro h
    refine List.ext_getElem (by simp) fun i h1 h2 => ?_
    have := h i h2
    simpa [h2] using this
theorem twice_held {a : List Nat} (hn : ∀ x ∈ a, x < a.length) : decide (heldN a = reachN a.length a) = twiceB a := by
  rw [Bool.eq_iff_iff, decide_eq_true_eq, twice_iff]
  unfold heldN reachN
  constructor
  · intro h p hp
    have hm : a.getD p 0 ∈ (List.range a.length).filter fun q => decide (q ∈ a) := List.mem_filter.mpr ⟨List.mem_range.mpr (hn _ (getD_mem hp)), decide_eq_true (getD_mem hp)⟩
    rw [← h] at hm
    simpa using (List.mem_filter.mp hm).2
  · intro h
    refine List.filter_congr fun p hp => ?_
    rw [Bool.eq_iff_iff, decide_eq_true_eq, decide_eq_true_eq]
    constructor
    · intro e
      rw [← e]
      exact getD_mem (List.mem_range.mp hp)
    · intro e
      obtain ⟨q, hq, he⟩ := List.mem_iff_getElem.mp e
      have := h q hq
      rw [show a.getD q 0 = p from by simp [hq, he]] at this
      exact this
theorem ok__law_deed_right (T : Tx K mg) : FnG P w K mg base CX0 3 T.f__law_deed_right T.d__law_deed_right ["deed"] (spD K 1 fs__law_deed_right) := by
  refine okD T.F__law_deed_right sc__law_deed_right fun cdv A outer s H E grd room => ⟨_, (dss_cons (ds_asg (de_tup (da_cons (de_callB b_len rfl T.z_len (by decide +kernel) (da_cons (dv 0) da_nil)) (da_cons (de_callB (b_repr grd room) rfl T.z_repr (by decide +kernel) (da_cons (dv 0) da_nil)) da_nil))) (dg_tup (n := 2) rfl (dgs_cons (dg_name (i := 1) sc__law_deed_right.nd) (dgs_cons (dg_name (i := 2) sc__law_deed_right.nd) dgs_nil))))
    (dss_cons (ds_set (i := 3) sc__law_deed_right.nd (de_callTy b_tuple rfl T.z_tuple (by decide +kernel) (da_cons (de_lc sc__law_deed_right.nd (di_rng1 rfl T.z_range (da_cons (dv 1) da_nil)) (blkOk_by (N := ["deed", "n", "shown", "hold", "reached", "is_twice", "p", "q"]) (sc := defScope s__law_deed_right) (own := [("p", 6)]) (by decide +kernel)) rfl (fun _ _ _ _ _ => (dg_name (i := 6) sc__law_deed_right.nd)) (fun _ _ _ _ _ => (dts_one (dt_cmp (o_eqA room) (de_ix (dv 0) (dv 6)) (dv 6)))) (fun _ _ _ _ _ => (dv 6))) da_nil)))
    (dss_cons (ds_set (i := 4) sc__law_deed_right.nd (de_callTy b_tuple rfl T.z_tuple (by decide +kernel) (da_cons (de_lc sc__law_deed_right.nd (di_rng1 rfl T.z_range (da_cons (dv 1) da_nil)) (blkOk_by (N := ["deed", "n", "shown", "hold", "reached", "is_twice", "p", "q"]) (sc := defScope s__law_deed_right) (own := [("q", 7)]) (by decide +kernel)) rfl (fun _ _ _ _ _ => (dg_name (i := 7) sc__law_deed_right.nd)) (fun _ _ _ _ _ => (dts_one (dt_cmp (o_neA room) (de_lc sc__law_deed_right.nd (di_rng1 rfl T.z_range (da_cons (dv 1) da_nil)) (blkOk_by (N := ["deed", "n", "shown", "hold", "reached", "is_twice", "p", "q"]) (sc := (relS _ (defScope s__law_deed_right))) (own := [("p", 6)]) (by decide +kernel)) rfl (fun _ _ _ _ _ => (dg_name (i := 6) sc__law_deed_right.nd)) (fun _ _ _ _ _ => (dts_one (dt_cmp (o_eqA room) (de_ix (dv 0) (dv 6)) (dv 7)))) (fun _ _ _ _ _ => (dv 6))) (de_lst da_nil)))) (fun _ _ _ _ _ => (dv 7))) da_nil)))
    (dss_cons (ds_set (i := 5) sc__law_deed_right.nd (de_cmp (o_eqA room) (de_lc sc__law_deed_right.nd (di_rng1 rfl T.z_range (da_cons (dv 1) da_nil)) (blkOk_by (N := ["deed", "n", "shown", "hold", "reached", "is_twice", "p", "q"]) (sc := defScope s__law_deed_right) (own := [("p", 6)]) (by decide +kernel)) rfl (fun _ _ _ _ _ => (dg_name (i := 6) sc__law_deed_right.nd)) (fun _ _ _ _ _ => (dts_one (dt_cmp (o_neA room) (de_ix (dv 0) (de_ix (dv 0) (dv 6))) (de_ix (dv 0) (dv 6))))) (fun _ _ _ _ _ => (dv 6))) (de_lst da_nil)))
    (dss_cons (ds_if (dt_cmp (o_neA room) (de_callB (b_repr grd room) rfl T.z_repr (by decide +kernel) (da_cons (de_lst (da_cons (de_call (ok_held T) grd (room.mono (by decide)) rfl T.m_held T.F_held.kp T.b_held (da_cons (dv 0) da_nil)) (da_cons (de_call (ok_reach T) grd (room.mono (by decide)) rfl T.m_reach T.F_reach.kp T.b_reach (da_cons (dv 0) da_nil)) (da_cons (de_call (ok_rank T) grd (room.mono (by decide)) rfl T.m_rank T.F_rank.kp T.b_rank (da_cons (dv 0) da_nil)) da_nil)))) da_nil)) (de_callB (b_repr grd room) rfl T.z_repr (by decide +kernel) (da_cons (de_lst (da_cons (dv 3) (da_cons (dv 4) (da_cons (de_callB b_len rfl T.z_len (by decide +kernel) (da_cons (dv 4) da_nil)) da_nil)))) da_nil))) (dss_one (ds_ret de_bl)) dss_nil)
    (dss_cons (ds_if (DW.dt (dw_or (dt_cmp (o_neA room) (de_callB (b_repr grd room) rfl T.z_repr (by decide +kernel) (da_cons (de_call (ok_is_settled T) grd (room.mono (by decide)) rfl T.m_is_settled T.F_is_settled.kp T.b_is_settled (da_cons (dv 0) da_nil)) da_nil)) (de_callB (b_repr grd room) rfl T.z_repr (by decide +kernel) (da_cons (dv 5) da_nil))) (dw_or (dt_cmp (o_neA room) (dv 5) (de_cmp (o_eqA room) (dv 3) (dv 4))) (dw_or1 (dt_cmp (o_neA room) (de_callB (b_repr grd room) rfl T.z_repr (by decide +kernel) (da_cons (dv 0) da_nil)) (dv 2)))))) (dss_one (ds_ret de_bl)) dss_nil)
    (dss_one (ds_ret (de_and (de_cmp (o_eqA room) (de_callB (b_repr grd room) rfl T.z_repr (by decide +kernel) (da_cons (de_call (ok_idle T) grd (room.mono (by decide)) rfl T.m_idle T.F_idle.kp T.b_idle (da_cons (dv 1) da_nil)) da_nil)) (de_callB (b_repr grd room) rfl T.z_repr (by decide +kernel) (da_cons (de_callTy b_tuple rfl T.z_tuple (by decide +kernel) (da_cons (de_rgL (dv 1) rfl T.z_list rfl T.z_range) da_nil)) da_nil))) (de_one (de_cmp o_isB (de_call (ok_is_settled T) grd (room.mono (by decide)) rfl T.m_is_settled T.F_is_settled.kp T.b_is_settled (da_cons (de_call (ok_idle T) grd (room.mono (by decide)) rfl T.m_idle T.F_idle.kp T.b_idle (da_cons (dv 1) da_nil)) da_nil)) de_bl))))))))))), fun ds φ hl hf => ?_⟩
  obtain ⟨a, rfl, hl, hn, h⟩ := hf
  have sm : ∀ {l : List Nat}, l.length ≤ 60 → (∀ x ∈ l, x < 60) → Fine 12 1 60 (tN l) := fun {l} h1 h2 => (fine_tN fun x hx => by have := h2 x hx; omega).mono (Nat.le_refl _) h1
  have fa : Fine 12 1 60 (tN a) := sm hl fun x hx => by have := hn x hx; omega
  have sz : (List.range a.length).length ≤ sizeLine := by rw [List.length_range, sizeLine_eq]; omega
  have fl : ∀ f : Nat → Bool, ((List.range a.length).filter f).length ≤ 60 ∧ ∀ x ∈ (List.range a.length).filter f, x < 60 := fun f => by
    refine ⟨?_, fun x hx => ?_⟩
    · have := List.length_filter_le f (List.range a.length)
      rw [List.length_range] at this
      omega
    · have := List.mem_range.mp (List.mem_filter.mp hx).1
      omega
  walk_at "w0"
  refine ⟨fa.shw, ?_⟩
  refine wLc_nfm (l := List.range a.length) (fun p => decide (a.getD p 0 = p)) nI (hiR (by omega) (by intro χ q; walk_at "w0"; exact q)) sz (fun p hp ψ q => ?_) (fun p hp _ ψ q => ?_) ?_
  · have e := atD_N (List.mem_range.mp hp)
    walk_at "w0"
    refine ⟨_, e, ?_⟩
    walk_at "w0"
    exact q
  · walk_at "w0"
    exact q
  walk_at "w0"
  refine wLc_nfm (l := List.range a.length) (fun q => decide (q ∈ a)) nI (hiR (by omega) (by intro χ q; walk_at "w0"; exact q)) sz (fun r hr ψ q => ?_) (fun p hp _ ψ q => ?_) ?_
  · walk_at "w0"
    refine wLc_nfm (l := List.range a.length) (fun p => decide (a.getD p 0 = r)) nI (hiR (by omega) (by intro χ q; walk_at "w0"; exact q)) sz (fun p hp ψ q => ?_) (fun p hp _ ψ q => ?_) ?_
    · have e := atD_N (List.mem_range.mp hp)
      walk_at "w0"
      refine ⟨_, e, ?_⟩
      walk_at "w0"
      exact q
    · walk_at "w0"
      exact q
    · walk_at "w0"
      refine ⟨sh_lN fun x hx => by have := (fl _).2 x hx; omega, ?_⟩
      rw [fibre_in]
      exact q
  · walk_at "w0"
    exact q
  walk_at "w0"
  have lt2 : ∀ {p}, p < a.length → a.getD p 0 < a.length := fun {p} hp => hn _ (getD_mem hp)
  refine wLc_nfm (l := List.range a.length) (fun p => !decide (a.getD (a.getD p 0) 0 = a.getD p 0)) nI (hiR (by omega) (by intro χ q; walk_at "w0"; exact q)) sz (fun p hp ψ q => ?_) (fun p hp _ ψ q => ?_) ?_
  · have hp' := List.mem_range.mp hp
    have e := atD_N hp'
    have e2 := atD_N (lt2 hp')
    walk_at "w0"
    refine ⟨_, e, _, rfl, _, e2, ?_⟩
    walk_at "w0"
    refine ⟨_, e, ?_⟩
    walk_at "w0"
    exact q
  · walk_at "w0"
    exact q
  walk_at "w0"
  refine ⟨sh_lN fun x hx => by have := (fl _).2 x hx; omega, ?_⟩
  refine ⟨a, rfl, by omega, ?_⟩
  refine ⟨a.length, a, rfl, by omega, hn, ?_⟩
  refine ⟨a.length, a, rfl, by omega, hn, ?_⟩
  walk_at "w0"
  have fh : Fine 12 1 60 (tN (heldN a)) := sm (fl _).1 (fl _).2
  have fr : Fine 12 1 60 (tN (reachN a.length a)) := sm (fl _).1 (fl _).2
  have lr : (reachN a.length a).length ≤ 60 := (fl _).1
  have fi : Fine 12 1 60 (nI (reachN a.length a).length) := (fine_nI (by omega)).mono (by decide) (by decide)
  have l3 : Fine 12 2 183 (.list [tN (heldN a), tN (reachN a.length a), nI (reachN a.length a).length]) := fine_lst (B := 12) (n := 1) (b := 60) (ds := [tN (heldN a), tN (reachN a.length a), nI (reachN a.length a).length]) fun x hx => by
    simp only [List.mem_cons, List.not_mem_nil, or_false] at hx
    rcases hx with rfl | rfl | rfl
    · exact fh
    · exact fr
    · exact fi
  have tw : decide (((List.range a.length).filter fun p => !decide (a.getD (a.getD p 0) 0 = a.getD p 0)).map nI = []) = twiceB a := by
    unfold twiceB
    simp only [List.map_eq_nil_iff]
  refine ⟨l3.shw, l3.shw, iteNS rfl ?_⟩
  rw [tw]
  refine ⟨a, rfl, by omega, hn, ?_⟩
  rw [twice_settled]
  walk_at "w0"
  refine ⟨(fine_bool (B := 12) _).shw, (fine_bool (B := 12) _).shw, ?_⟩
  refine iteNS trivial ?_
  refine ⟨fh.shaped, fr.shaped, ?_⟩
  refine iteNS (twice_held hn).symm ?_
  refine ⟨fa.shw, iteNS trivial ?_⟩
  have ri : Fine 12 1 60 (tN (List.range a.length)) := sm (by rw [List.length_range]; exact hl) fun x hx => by have := List.mem_range.mp hx; omega
  refine ⟨a.length, rfl, by omega, ?_⟩
  walk_at "w0"
  rw [Int.toNat_natCast, rng_eq]
  refine ⟨ri.shw, by omega, by omega, ri.shw, ?_⟩
  rw [if_pos rfl]
  refine ⟨a.length, rfl, by omega, ?_⟩
  have same : mulN (List.range a.length) (List.range a.length) = List.range a.length := by
    unfold mulN
    refine (List.map_congr_left fun x hx => ?_).trans (List.map_id _)
    have := List.mem_range.mp hx
    simp [this]
  refine ⟨List.range a.length, rfl, by rw [List.length_range]; omega, fun x hx => by rw [List.length_range]; exact List.mem_range.mp hx, ?_⟩
  rw [same]
  walk_at "w0"
  simpa using h

/-- _law_words_right(source, book, deed) -/
def fs__law_words_right : FS := fun ds φ => ∃ (n : Nat) (deeds : List (List Nat)) (a : List Nat), ds = [.src, .dat (bookD n deeds), .dat (tN a)] ∧ 1 ≤ n ∧ n ≤ 60 ∧ deeds.length ≤ 60 ∧ BookN n deeds ∧ a.length = n ∧ (∀ x ∈ a, x < n) ∧ φ (db true)
theorem doneN_led {n : Nat} {deeds : List (List Nat)} (B : BookN n deeds) {word : List Nat} (hw : ∀ l ∈ word, l < deeds.length) : doneN n deeds word = (List.range n).map (ledN deeds word) := by
  have key : ∀ (word : List Nat) (d : List Nat), (∀ l ∈ word, l < deeds.length) → (∀ x ∈ d, x < n) → word.foldl (fun d l => mulN d (deeds.getD l [])) d = d.map (ledN deeds word) := fun word => by
    induction word with
    | nil => exact fun d _ _ => (List.map_id _).symm
    | cons l word ih =>
      intro d h1 h2
      have hm : deeds.getD l [] ∈ deeds := getD_mem (h1 l List.mem_cons_self)
      show word.foldl _ (mulN d (deeds.getD l [])) = _
      rw [ih _ (fun x hx => h1 x (List.mem_cons_of_mem _ hx)) (mulN_lt (fun x hx => by rw [B.len _ hm]; exact h2 x hx) (B.lt _ hm))]
      unfold mulN
      rw [List.map_map]
      rfl
  exact key word _ hw fun x hx => List.mem_range.mp hx
theorem ledN_app {deeds : List (List Nat)} (u v : List Nat) (p : Nat) : ledN deeds (u ++ v) p = ledN deeds v (ledN deeds u p) := by simp [ledN]
theorem done_cut {n : Nat} {deeds : List (List Nat)} (B : BookN n deeds) {u v : List Nat} (hu : ∀ l ∈ u, l < deeds.length) (hv : ∀ l ∈ v, l < deeds.length) : mulN (doneN n deeds u) (doneN n deeds v) = doneN n deeds (u ++ v) := by
  rw [doneN_led B hu, doneN_led B hv, doneN_led B fun l hl => (List.mem_append.mp hl).elim (hu l) (hv l)]
  unfold mulN
  rw [List.map_map]
  refine List.map_congr_left fun p hp => ?_
  have := ledN_lt B hu (List.mem_range.mp hp)
  simp [this, ledN_app]
theorem sub_len {a b : List Nat} (nd : a.Nodup) (h : ∀ x ∈ a, x ∈ b) : a.length ≤ b.length := by
  induction a generalizing b with
  | nil => exact Nat.zero_le _
  | cons x a ih =>
    rw [List.nodup_cons] at nd
    have hx := h x List.mem_cons_self
    have e := List.length_erase_of_mem hx
    have q := ih (b := b.erase x) nd.2 fun y hy => (List.mem_erase_of_ne (fun z => nd.1 (by rw [← z]; exact hy))).mpr (h y (List.mem_cons_of_mem _ hy))
    have := List.length_pos_of_mem hx
    rw [List.length_cons]
    omega
theorem reachN_nodup (n : Nat) (a : List Nat) : (reachN n a).Nodup := nodup_filter List.nodup_range
theorem mem_reachN {n x : Nat} {a : List Nat} : x ∈ reachN n a ↔ x < n ∧ x ∈ a := by
  unfold reachN
  rw [List.mem_filter, List.mem_range, decide_eq_true_eq]
theorem rank_le {n : Nat} {a b : List Nat} (ha : ∀ x ∈ a, x < n) (hb : b.length = n) (hb2 : ∀ x ∈ b, x < n) : (reachN n (mulN a b)).length ≤ (reachN n a).length ∧ (reachN n (mulN a b)).length ≤ (reachN n b).length := by
  refine ⟨?_, sub_len (reachN_nodup _ _) fun x hx => ?_⟩
  · have e : (reachN n a).length = ((reachN n a).map fun x => b.getD x 0).length := by rw [List.length_map]
    rw [e]
    refine sub_len (reachN_nodup _ _) fun x hx => ?_
    obtain ⟨h1, h2⟩ := mem_reachN.mp hx
    obtain ⟨y, hy, rfl⟩ := List.mem_map.mp h2
    exact List.mem_map.mpr ⟨y, mem_reachN.mpr ⟨ha y hy, hy⟩, rfl⟩
  · obtain ⟨h1, h2⟩ := mem_reachN.mp hx
    obtain ⟨y, hy, rfl⟩ := List.mem_map.mp h2
    exact mem_reachN.mpr ⟨h1, getD_mem (by rw [hb]; exact ha y hy)⟩
theorem ok__law_words_right (T : Tx K mg) : FnG P w K mg base CX0 4 T.f__law_words_right T.d__law_words_right ["source", "book", "deed"] (spD K 3 fs__law_words_right) := by
  refine okD T.F__law_words_right sc__law_words_right fun cdv A outer s H E grd room => ⟨_, (dss_cons (ds_set (i := 3) sc__law_words_right.nd (de_callB b_len rfl T.z_len (by decide +kernel) (da_cons (de_ix (dv 1) de_int) da_nil)))
    (dss_cons (ds_set (i := 4) sc__law_words_right.nd (de_op o_mulA (de_call (ok__law_pick T) grd (room.mono (by decide)) rfl T.m__law_pick T.F__law_pick.kp T.b__law_pick (da_cons (dv 0) (da_cons (de_call (ok__law_of T) grd (room.mono (by decide)) rfl T.m__law_of T.F__law_of.kp T.b__law_of (da_cons (dv 0) (da_cons (de_lst (da_cons de_int (da_cons de_int (da_cons de_int (da_cons de_int (da_cons de_int (da_cons de_int da_nil))))))) da_nil))) da_nil))) (de_callTy b_int rfl T.z_int (by decide +kernel) (da_cons (de_cmp o_gt (dv 3) de_int) da_nil))))
    (dss_cons (ds_set (i := 5) sc__law_words_right.nd (de_callTy b_tuple rfl T.z_tuple (by decide +kernel) (da_cons (de_lc sc__law_words_right.nd (di_rng1 rfl T.z_range (da_cons (dv 4) da_nil)) (blkOk_by (N := ["source", "book", "deed", "many", "long", "word", "due", "shown", "told", "k", "both", "p", "q", "one"]) (sc := defScope s__law_words_right) (own := [("k", 9)]) (by decide +kernel)) rfl (fun _ _ _ _ _ => (dg_name (i := 9) sc__law_words_right.nd)) (fun _ _ _ _ _ => dts_nil) (fun _ _ _ _ _ => (de_call (ok__law_pick T) grd (room.mono (by decide)) rfl T.m__law_pick T.F__law_pick.kp T.b__law_pick (da_cons (dv 0) (da_cons (dv 3) da_nil))))) da_nil)))
    (dss_cons (ds_set (i := 6) sc__law_words_right.nd (de_callTy b_tuple rfl T.z_tuple (by decide +kernel) (da_cons (de_lc sc__law_words_right.nd (di_rng1 rfl T.z_range (da_cons (de_ix (dv 1) de_int) da_nil)) (blkOk_by (N := ["source", "book", "deed", "many", "long", "word", "due", "shown", "told", "k", "both", "p", "q", "one"]) (sc := defScope s__law_words_right) (own := [("p", 11)]) (by decide +kernel)) rfl (fun _ _ _ _ _ => (dg_name (i := 11) sc__law_words_right.nd)) (fun _ _ _ _ _ => dts_nil) (fun _ _ _ _ _ => (de_call (ok__law_led T) grd (room.mono (by decide)) rfl T.m__law_led T.F__law_led.kp T.b__law_led (da_cons (dv 1) (da_cons (dv 5) (da_cons (dv 11) da_nil)))))) da_nil)))
    (dss_cons (ds_set (i := 7) sc__law_words_right.nd (de_callB (b_repr grd room) rfl T.z_repr (by decide +kernel) (da_cons (de_lst (da_cons (dv 1) (da_cons (dv 5) da_nil))) da_nil)))
    (dss_cons (ds_set (i := 8) sc__law_words_right.nd (de_lst (da_cons (de_call (ok_done T) grd (room.mono (by decide)) rfl T.m_done T.F_done.kp T.b_done (da_cons (dv 1) (da_cons (dv 5) da_nil))) (da_cons (de_call (ok_done T) grd (room.mono (by decide)) rfl T.m_done T.F_done.kp T.b_done (da_cons (dv 1) (da_cons (dv 5) da_nil))) da_nil))))
    (dss_cons (ds_if (DW.dt (dw_or (dt_cmp (o_neA room) (de_callB (b_repr grd room) rfl T.z_repr (by decide +kernel) (da_cons (dv 8) da_nil)) (de_callB (b_repr grd room) rfl T.z_repr (by decide +kernel) (da_cons (de_lst (da_cons (dv 6) (da_cons (dv 6) da_nil))) da_nil))) (dw_or (dt_cmp (o_neA room) (de_callB (b_repr grd room) rfl T.z_repr (by decide +kernel) (da_cons (de_lst (da_cons (dv 1) (da_cons (dv 5) da_nil))) da_nil)) (dv 7)) (dw_or1 (dt_not (dt_val (de_call (ok__law_deed_right T) grd (room.mono (by decide)) rfl T.m__law_deed_right T.F__law_deed_right.kp T.b__law_deed_right (da_cons (dv 6) da_nil)))))))) (dss_one (ds_ret de_bl)) dss_nil)
    (dss_cons (ds_set (i := 9) sc__law_words_right.nd (de_call (ok__law_pick T) grd (room.mono (by decide)) rfl T.m__law_pick T.F__law_pick.kp T.b__law_pick (da_cons (dv 0) (da_cons (de_op o_addA (de_callB b_len rfl T.z_len (by decide +kernel) (da_cons (dv 5) da_nil)) de_int) da_nil))))
    (dss_cons (ds_if (dt_cmp (o_neA room) (de_call (ok_product T) grd (room.mono (by decide)) rfl T.m_product T.F_product.kp T.b_product (da_cons (de_call (ok_done T) grd (room.mono (by decide)) rfl T.m_done T.F_done.kp T.b_done (da_cons (dv 1) (da_cons (de_sl (dv 5) do_none (do_some (dv 9))) da_nil))) (da_cons (de_call (ok_done T) grd (room.mono (by decide)) rfl T.m_done T.F_done.kp T.b_done (da_cons (dv 1) (da_cons (de_sl (dv 5) (do_some (dv 9)) do_none) da_nil))) da_nil))) (dv 6)) (dss_one (ds_ret de_bl)) dss_nil)
    (dss_cons (ds_set (i := 10) sc__law_words_right.nd (de_lst (da_cons (de_call (ok_product T) grd (room.mono (by decide)) rfl T.m_product T.F_product.kp T.b_product (da_cons (dv 6) (da_cons (dv 2) da_nil))) (da_cons (de_call (ok_product T) grd (room.mono (by decide)) rfl T.m_product T.F_product.kp T.b_product (da_cons (dv 2) (da_cons (dv 6) da_nil))) da_nil))))
    (dss_cons (ds_if (dt_cmp (o_neA room) (de_callB (b_repr grd room) rfl T.z_repr (by decide +kernel) (da_cons (dv 10) da_nil)) (de_callB (b_repr grd room) rfl T.z_repr (by decide +kernel) (da_cons (de_lst (da_cons (de_callTy b_tuple rfl T.z_tuple (by decide +kernel) (da_cons (de_lc sc__law_words_right.nd (di_seq (dv 6)) (blkOk_by (N := ["source", "book", "deed", "many", "long", "word", "due", "shown", "told", "k", "both", "p", "q", "one"]) (sc := defScope s__law_words_right) (own := [("q", 12)]) (by decide +kernel)) rfl (fun _ _ _ _ _ => (dg_name (i := 12) sc__law_words_right.nd)) (fun _ _ _ _ _ => dts_nil) (fun _ _ _ _ _ => (de_ix (dv 2) (dv 12)))) da_nil)) (da_cons (de_callTy b_tuple rfl T.z_tuple (by decide +kernel) (da_cons (de_lc sc__law_words_right.nd (di_seq (dv 2)) (blkOk_by (N := ["source", "book", "deed", "many", "long", "word", "due", "shown", "told", "k", "both", "p", "q", "one"]) (sc := defScope s__law_words_right) (own := [("q", 12)]) (by decide +kernel)) rfl (fun _ _ _ _ _ => (dg_name (i := 12) sc__law_words_right.nd)) (fun _ _ _ _ _ => dts_nil) (fun _ _ _ _ _ => (de_ix (dv 6) (dv 12)))) da_nil)) da_nil))) da_nil))) (dss_one (ds_ret de_bl)) dss_nil)
    (dss_one (ds_ret (de_cmp (o_eqA room) (de_lc sc__law_words_right.nd (di_seq (dv 10)) (blkOk_by (N := ["source", "book", "deed", "many", "long", "word", "due", "shown", "told", "k", "both", "p", "q", "one"]) (sc := defScope s__law_words_right) (own := [("one", 13)]) (by decide +kernel)) rfl (fun _ _ _ _ _ => (dg_name (i := 13) sc__law_words_right.nd)) (fun _ _ _ _ _ => (dts_one (dt_cmp o_gt (de_call (ok_rank T) grd (room.mono (by decide)) rfl T.m_rank T.F_rank.kp T.b_rank (da_cons (dv 13) da_nil)) (de_callB b_min2 rfl T.z_min (by decide +kernel) (da_cons (de_call (ok_rank T) grd (room.mono (by decide)) rfl T.m_rank T.F_rank.kp T.b_rank (da_cons (dv 6) da_nil)) (da_cons (de_call (ok_rank T) grd (room.mono (by decide)) rfl T.m_rank T.F_rank.kp T.b_rank (da_cons (dv 2) da_nil)) da_nil)))))) (fun _ _ _ _ _ => (dv 13))) (de_lst da_nil))))))))))))))), fun ds φ hl hf => ?_⟩
  obtain ⟨n, deeds, a, rfl, h1, h2, hg, B, la, lta, h⟩ := hf
  walk_at "w0"
  refine ⟨_, rfl, _, rfl, ?_⟩
  refine ⟨_, _, rfl, rfl, by decide, by decide, fun x hx => ?_⟩
  have hv : ∃ v : Nat, x = nI v ∧ v ≤ 2001 := by
    rcases List.mem_cons.mp hx with rfl | hx
    · exact ⟨3, rfl, by decide⟩
    rcases List.mem_cons.mp hx with rfl | hx
    · exact ⟨9, rfl, by decide⟩
    rcases List.mem_cons.mp hx with rfl | hx
    · exact ⟨61, rfl, by decide⟩
    rcases List.mem_cons.mp hx with rfl | hx
    · exact ⟨9, rfl, by decide⟩
    rcases List.mem_cons.mp hx with rfl | hx
    · exact ⟨61, rfl, by decide⟩
    rw [List.mem_singleton.mp hx]
    exact ⟨2001, rfl, by decide⟩
  obtain ⟨v, rfl, hv⟩ := hv
  refine ⟨_, rfl, by omega, fun r hr => ?_⟩
  walk_at "w0"
  refine ⟨.inl ⟨by omega, by omega⟩, ?_⟩
  have hL : ∃ L : Nat, (r : Int) * (if 0 < (deeds.length : Int) then 1 else 0) = (L : Int) ∧ L ≤ 2001 ∧ (0 < L → 0 < deeds.length) := by
    by_cases e : 0 < deeds.length
    · exact ⟨r, by rw [if_pos (by omega), Int.mul_one], by omega, fun _ => e⟩
    · exact ⟨0, by rw [if_neg (by omega), Int.mul_zero]; rfl, by omega, fun z => absurd z (by omega)⟩
  obtain ⟨L, eL, L1, L2⟩ := hL
  rw [eL]
  -- the word
  refine wLc_nany (l := List.range L) (fun _ y => y < deeds.length) (hiR (by omega) (by intro χ q; walk_at "w0"; exact q)) (by rw [List.length_range, sizeLine_eq]; omega) (fun p hp ψ q => ?_) fun word w1 w2 => ?_
  · have := L2 (Nat.lt_of_le_of_lt (Nat.zero_le _) (List.mem_range.mp hp))
    walk_at "w0"
    exact ⟨_, rfl, by omega, fun r hr => q r (by omega)⟩
  rw [List.length_range] at w1
  have hw : ∀ l ∈ word, l < deeds.length := fun l hl => by
    obtain ⟨i, hi, e⟩ := List.mem_iff_getElem.mp hl
    exact w2 i i l (List.getElem?_range (by omega)) (by rw [← e]; simp [hi])
  walk_at "w0"
  -- where it leads
  refine wLc_nmap (l := List.range n) (fun p => nI (ledN deeds word p)) (hiR (by omega) (by intro χ q; walk_at "w0"; exact ⟨_, rfl, q⟩)) (by rw [List.length_range, sizeLine_eq]; omega) (fun p hp ψ q => ?_) ?_
  · walk_at "w0"
    exact ⟨n, deeds, word, p, rfl, B, hw, List.mem_range.mp hp, q⟩
  walk_at "w0"
  have eD : (List.range n).map (fun p => nI (ledN deeds word p)) = (doneN n deeds word).map nI := by
    rw [doneN_led B hw, List.map_map]
    rfl
  rw [eD]
  obtain ⟨d1, d2⟩ := doneN_ok B hw
  have fd : Fine 12 1 60 (tN (doneN n deeds word)) := (fine_tN fun x hx => by have := d2 x hx; omega).mono (Nat.le_refl _) (by rw [d1]; exact h2)
  have fa : Fine 12 1 60 (tN a) := (fine_tN fun x hx => by have := lta x hx; omega).mono (Nat.le_refl _) (by rw [la]; exact h2)
  have fw : Fine 12 1 2001 (tN word) := (fine_tN fun x hx => by have := hw x hx; omega).mono (Nat.le_refl _) (by omega)
  have fb0 : Fine 12 2 3660 (.tuple (deeds.map tN)) := (fine_tup (B := 12) (n := 1) (b := 60) (ds := deeds.map tN) fun x hx => by
    obtain ⟨e, he, rfl⟩ := List.mem_map.mp hx
    exact (fine_tN fun x hx => by have := B.lt e he x hx; omega).mono (Nat.le_refl _) (by rw [B.len e he]; exact h2)).mono (Nat.le_refl _) (by rw [List.length_map]; omega)
  have fb : Fine 12 3 7322 (bookD n deeds) := fine_tup (B := 12) (n := 2) (b := 3660) (ds := [nI n, .tuple (deeds.map tN)]) fun x hx => by
    rcases List.mem_cons.mp hx with rfl | hx
    · exact (fine_nI (by omega)).mono (by decide) (by decide)
    · rw [List.mem_singleton.mp hx]
      exact fb0
  have fbw : Fine 12 4 14646 (.list [bookD n deeds, tN word]) := fine_lst (B := 12) (n := 3) (b := 7322) (ds := [bookD n deeds, tN word]) fun x hx => by
    rcases List.mem_cons.mp hx with rfl | hx
    · exact fb
    · rw [List.mem_singleton.mp hx]
      exact fw.mono (by decide) (by decide)
  have two : ∀ {x y : List Nat}, Fine 12 1 60 (tN x) → Fine 12 1 60 (tN y) → Fine 12 2 122 (.list [tN x, tN y]) := fun {x y} f1 f2 => fine_lst (B := 12) (n := 1) (b := 60) (ds := [tN x, tN y]) fun z hz => by
    rcases List.mem_cons.mp hz with rfl | hz
    · exact f1
    · rw [List.mem_singleton.mp hz]
      exact f2
  have fdd := two fd fd
  refine ⟨fbw.shw, ?_⟩
  refine ⟨n, deeds, word, rfl, by omega, B, hw, ?_⟩
  refine ⟨n, deeds, word, rfl, by omega, B, hw, ?_⟩
  walk_at "w0"
  refine ⟨fdd.shw, fdd.shw, iteNS trivial ?_⟩
  refine ⟨fbw.shw, iteNS trivial ?_⟩
  refine ⟨doneN n deeds word, rfl, by omega, fun x hx => by rw [d1]; exact d2 x hx, ?_⟩
  refine ⟨true, rfl, iteF ?_⟩
  refine ⟨_, rfl, by omega, fun k hk => ?_⟩
  have hk : k ≤ word.length := by omega
  walk_at "w0"
  rw [cutD_take hk, cutD_drop hk]
  have hu : ∀ l ∈ word.take k, l < deeds.length := fun l hl => hw l (List.mem_of_mem_take hl)
  have hv2 : ∀ l ∈ word.drop k, l < deeds.length := fun l hl => hw l (List.mem_of_mem_drop hl)
  obtain ⟨u1, u2⟩ := doneN_ok B hu
  obtain ⟨v1, v2⟩ := doneN_ok B hv2
  refine ⟨n, deeds, word.take k, rfl, by omega, B, hu, ?_⟩
  refine ⟨n, deeds, word.drop k, rfl, by omega, B, hv2, ?_⟩
  refine ⟨_, _, rfl, by omega, fun x hx => by rw [v1]; exact u2 x hx, ?_⟩
  rw [done_cut B hu hv2, List.take_append_drop]
  walk_at "w0"
  refine ⟨fd.shaped, fd.shaped, ?_⟩
  have tl : ∀ x ∈ doneN n deeds word, x < a.length := fun x hx => by rw [la]; exact d2 x hx
  have td : ∀ x ∈ a, x < (doneN n deeds word).length := fun x hx => by rw [d1]; exact lta x hx
  refine ⟨_, _, rfl, by omega, tl, ?_⟩
  refine ⟨_, _, rfl, by omega, td, ?_⟩
  have l1 := mulN_lt tl (n := n) lta
  have l2 := mulN_lt td (n := n) d2
  have f1 : Fine 12 1 60 (tN (mulN (doneN n deeds word) a)) := (fine_tN fun x hx => by have := l1 x hx; omega).mono (Nat.le_refl _) (by rw [mulN_len]; omega)
  have f2 : Fine 12 1 60 (tN (mulN a (doneN n deeds word))) := (fine_tN fun x hx => by have := l2 x hx; omega).mono (Nat.le_refl _) (by rw [mulN_len]; omega)
  have ff := two f1 f2
  walk_at "w0"
  refine ⟨ff.shw, ?_⟩
  refine wLc_nmap (l := doneN n deeds word) (fun x => nI (a.getD x 0)) (by intro ψ q; walk_at "w0"; exact q) (by rw [sizeLine_eq]; omega) (fun x hx ψ q => ?_) ?_
  · have e := atD_N (tl x hx)
    walk_at "w0"
    exact ⟨_, e, q⟩
  walk_at "w0"
  refine wLc_nmap (l := a) (fun x => nI ((doneN n deeds word).getD x 0)) (by intro ψ q; walk_at "w0"; exact q) (by rw [sizeLine_eq]; omega) (fun x hx ψ q => ?_) ?_
  · have e := atD_N (td x hx)
    walk_at "w0"
    exact ⟨_, e, q⟩
  walk_at "w0"
  have m1 : (doneN n deeds word).map (fun x => nI (a.getD x 0)) = (mulN (doneN n deeds word) a).map nI := by
    unfold mulN
    rw [List.map_map]
    rfl
  have m2 : a.map (fun x => nI ((doneN n deeds word).getD x 0)) = (mulN a (doneN n deeds word)).map nI := by
    unfold mulN
    rw [List.map_map]
    rfl
  rw [m1, m2]
  refine ⟨ff.shw, iteNS rfl ?_⟩
  refine wLc_fm (xs := [tN (mulN (doneN n deeds word) a), tN (mulN a (doneN n deeds word))]) (fun _ => false) id (by intro ψ q; walk_at "w0"; exact q) (by show 2 ≤ sizeLine; decide) (fun d hd ψ q => ?_) (fun d hd hp ψ q => nomatch hp) ?_
  · have key : ∃ b : List Nat, d = tN b ∧ b.length = n ∧ (∀ x ∈ b, x < n) ∧ (reachN n b).length ≤ (reachN n (doneN n deeds word)).length ∧ (reachN n b).length ≤ (reachN n a).length := by
      rcases List.mem_cons.mp hd with rfl | hd
      · have r := rank_le d2 la lta
        exact ⟨_, rfl, by rw [mulN_len, d1], l1, r.1, r.2⟩
      · rw [List.mem_singleton.mp hd]
        have r := rank_le lta d1 d2
        exact ⟨_, rfl, by rw [mulN_len, la], l2, r.2, r.1⟩
    obtain ⟨b, rfl, b1, b2, b3, b4⟩ := key
    walk_at "w0"
    refine ⟨n, b, rfl, by omega, b2, ?_⟩
    refine ⟨n, _, rfl, by omega, d2, ?_⟩
    refine ⟨n, a, rfl, by omega, lta, ?_⟩
    walk_at "w0"
    refine ⟨_, _, ⟨rfl, rfl⟩, ?_⟩
    rw [decide_eq_false (by split <;> omega)]
    exact q
  walk_at "w0"
  have e0 : List.map id (List.filter (fun _ => false) [tN (mulN (doneN n deeds word) a), tN (mulN a (doneN n deeds word))]) = [] := rfl
  rw [e0]
  exact ⟨sh_l0, by simpa using h⟩

/-- _law_beside(source, n, m) -/
def fs__law_beside : FS := fun ds φ => ∃ n m : Nat, ds = [.src, di n, di m] ∧ 1 ≤ n ∧ n ≤ 30 ∧ m ≤ 30 ∧ ∀ b : List Nat, b.length = n + m → (∀ x ∈ b, x < n + m) → φ (.dat (tN b))
theorem wLc_into {wi : WI} {g wt we is ρ} {φ : DV → Prop} (h : wi ρ fun xs => wLc (fun _ ψ => ψ xs) g wt we is ρ φ) : wLc wi g wt we is ρ φ := h
theorem ok__law_beside (T : Tx K mg) : FnG P w K mg base CX0 4 T.f__law_beside T.d__law_beside ["source", "n", "m"] (spD K 3 fs__law_beside) := by
  refine okD T.F__law_beside sc__law_beside fun cdv A outer s H E grd room => ⟨_, (dss_cons (ds_par (i := 3) (j := 4) sc__law_beside.nd (da_cons (de_call (ok__law_deed T) grd (room.mono (by decide)) rfl T.m__law_deed T.F__law_deed.kp T.b__law_deed (da_cons (dv 0) (da_cons (dv 1) (da_cons (de_call (ok__law_pick T) grd (room.mono (by decide)) rfl T.m__law_pick T.F__law_pick.kp T.b__law_pick (da_cons (dv 0) (da_cons de_int da_nil))) da_nil)))) (da_cons (de_tup da_nil) da_nil)))
    (dss_cons (ds_if (dt_cmp o_gt (dv 2) de_int) (dss_one (ds_set (i := 4) sc__law_beside.nd (de_callTy b_tuple rfl T.z_tuple (by decide +kernel) (da_cons (de_lc sc__law_beside.nd (di_seq (de_call (ok__law_deed T) grd (room.mono (by decide)) rfl T.m__law_deed T.F__law_deed.kp T.b__law_deed (da_cons (dv 0) (da_cons (dv 2) (da_cons (de_call (ok__law_pick T) grd (room.mono (by decide)) rfl T.m__law_pick T.F__law_pick.kp T.b__law_pick (da_cons (dv 0) (da_cons de_int da_nil))) da_nil))))) (blkOk_by (N := ["source", "n", "m", "near", "far", "p"]) (sc := defScope s__law_beside) (own := [("p", 5)]) (by decide +kernel)) rfl (fun _ _ _ _ _ => (dg_name (i := 5) sc__law_beside.nd)) (fun _ _ _ _ _ => dts_nil) (fun _ _ _ _ _ => (de_op o_addA (dv 1) (dv 5)))) da_nil)))) dss_nil)
    (dss_one (ds_ret (de_op o_addA (dv 3) (dv 4)))))), fun ds φ hl hf => ?_⟩
  obtain ⟨n, m, rfl, h1, h2, h3, h⟩ := hf
  walk_at "w0"
  refine ⟨_, rfl, by omega, fun r hr => ?_⟩
  refine ⟨n, _, rfl, h1, by omega, fun near n1 n2 => ?_⟩
  walk_at "w0"
  refine ⟨_, _, ⟨rfl, rfl⟩, ?_⟩
  refine ite2 (fun q => ?_) (fun q => ?_)
  · refine wLc_into ?_
    walk_at "w0"
    refine ⟨_, rfl, by omega, fun r' hr' => ?_⟩
    refine ⟨m, _, rfl, by omega, by omega, fun far f1 f2 => ?_⟩
    walk_at "w0"
    refine wLc_nmap (l := far) (fun p => nI (n + p)) (fun ψ q => q) (by rw [sizeLine_eq]; omega) (fun p hp ψ q => ?_) ?_
    · walk_at "w0"
      exact q
    · walk_at "w0"
      have e : near.map nI ++ far.map (fun p => nI (n + p)) = (near ++ far.map (n + ·)).map nI := by
        rw [List.map_append, List.map_map]
        rfl
      refine ⟨by omega, ?_⟩
      rw [e]
      refine h _ (by simp [n1, f1]) fun x hx => ?_
      rcases List.mem_append.mp hx with z | z
      · have := n2 x z
        omega
      · obtain ⟨y, hy, rfl⟩ := List.mem_map.mp z
        have := f2 y hy
        omega
  · have e : m = 0 := by omega
    subst e
    walk_at "w0"
    refine ⟨by first | (rw [sizeLine_eq]; omega) | (rw [List.length_map, sizeLine_eq]; omega) | (simp [sizeLine_eq]; omega), ?_⟩
    rw [List.append_nil]
    exact h _ (by simp [n1]) fun x hx => by have := n2 x hx; omega

theorem all_tN {P : List Nat → Prop} : ∀ ys : List PD, (∀ d ∈ ys, ∃ b, d = tN b ∧ P b) → ∃ ds : List (List Nat), ys = ds.map tN ∧ ∀ b ∈ ds, P b
  | [], _ => ⟨[], rfl, fun _ h => nomatch h⟩
  | y :: ys, h => by
    obtain ⟨b, rfl, hb⟩ := h y List.mem_cons_self
    obtain ⟨ds, rfl, hd⟩ := all_tN ys fun d hd => h d (List.mem_cons_of_mem _ hd)
    exact ⟨b :: ds, rfl, fun c hc => (List.mem_cons.mp hc).elim (fun e => e ▸ hb) (hd c)⟩
def bkC : List (List Nat) := [[1, 2, 0], [0, 0, 2]]
theorem bkC_ok : BookN 3 bkC := ⟨by decide, by decide⟩
def toldC (d : PD) : PD := match d with
  | .tuple xs => tN (doneN 3 bkC (xs.map ofInt))
  | d => d
theorem ok_law (T : Tx K mg) : FnG P w K mg base CX0 5 T.f_law T.d_law ["script"] (sp_law K) := by
  refine okG0 T.F_law sc_law (fun vs H Q E h => ?_) (fun cdv A outer s H vs Q E grd room want => ?_)
  · obtain ⟨a, ns, rfl, _⟩ := h
    rfl
  obtain ⟨a, ns, rfl, scr, hl, k⟩ := want
  refine law_body (E := E0) (n := 11) (ps_set (i := 1) sc_law.nd rfl (by first | exact Or.inl rfl | exact Or.inr rfl) (callG (E := E0) (ok__law_source T) grd (room.mono (by decide)) rfl T.m__law_source T.F__law_source.kp T.b__law_source (fun _ _ _ _ _ _ _ h => False.elim h) (pa_cons (pv 0) pa_nil)))
    (dss_cons (ds_for PassesOwn.never (di_rng1 rfl T.z_range (da_cons de_int da_nil)) (dg_name (i := 2) sc_law.nd) (dss_cons (ds_asg (de_tup (da_cons (de_op o_addA de_int (de_call (ok__law_pick T) grd (room.mono (by decide)) rfl T.m__law_pick T.F__law_pick.kp T.b__law_pick (da_cons (dv 1) (da_cons de_int da_nil)))) (da_cons (de_op o_mulA (de_call (ok__law_pick T) grd (room.mono (by decide)) rfl T.m__law_pick T.F__law_pick.kp T.b__law_pick (da_cons (dv 1) (da_cons de_int da_nil))) (de_callTy b_int rfl T.z_int (by decide +kernel) (da_cons (de_cmp (o_eqA room) (de_call (ok__law_pick T) grd (room.mono (by decide)) rfl T.m__law_pick T.F__law_pick.kp T.b__law_pick (da_cons (dv 1) (da_cons de_int da_nil))) de_int) da_nil))) da_nil))) (dg_tup (n := 2) rfl (dgs_cons (dg_name (i := 3) sc_law.nd) (dgs_cons (dg_name (i := 4) sc_law.nd) dgs_nil))))
    (dss_cons (ds_set (i := 5) sc_law.nd (de_callTy b_tuple rfl T.z_tuple (by decide +kernel) (da_cons (de_lc sc_law.nd (di_rng1 rfl T.z_range (da_cons (de_call (ok__law_pick T) grd (room.mono (by decide)) rfl T.m__law_pick T.F__law_pick.kp T.b__law_pick (da_cons (dv 1) (da_cons de_int da_nil))) da_nil)) (blkOk_by (N := ["script", "source", "lap", "n", "m", "deeds", "deed", "book", "told", "k", "word"]) (sc := defScope s_law) (own := [("k", 9)]) (by decide +kernel)) rfl (fun _ _ _ _ _ => (dg_name (i := 9) sc_law.nd)) (fun _ _ _ _ _ => dts_nil) (fun _ _ _ _ _ => (de_call (ok__law_beside T) grd (room.mono (by decide)) rfl T.m__law_beside T.F__law_beside.kp T.b__law_beside (da_cons (dv 1) (da_cons (dv 3) (da_cons (dv 4) da_nil)))))) da_nil)))
    (dss_cons (ds_for PassesOwn.never (di_seq (dv 5)) (dg_name (i := 6) sc_law.nd) (dss_one (ds_if (dt_not (dt_val (de_call (ok__law_deed_right T) grd (room.mono (by decide)) rfl T.m__law_deed_right T.F__law_deed_right.kp T.b__law_deed_right (da_cons (dv 6) da_nil)))) (dss_one (ds_ret de_bl)) dss_nil)))
    (dss_one (ds_if (dt_not (dt_val (de_call (ok__law_words_right T) grd (room.mono (by decide)) rfl T.m__law_words_right T.F__law_words_right.kp T.b__law_words_right (da_cons (dv 1) (da_cons (de_tup (da_cons (de_op o_addA (dv 3) (dv 4)) (da_cons (dv 5) da_nil))) (da_cons (de_call (ok__law_beside T) grd (room.mono (by decide)) rfl T.m__law_beside T.F__law_beside.kp T.b__law_beside (da_cons (dv 1) (da_cons (dv 3) (da_cons (dv 4) da_nil)))) da_nil)))))) (dss_one (ds_ret de_bl)) dss_nil))))))
    (dss_cons (ds_set (i := 7) sc_law.nd (de_tup (da_cons de_int (da_cons (de_tup (da_cons (de_tup (da_cons de_int (da_cons de_int (da_cons de_int da_nil)))) (da_cons (de_tup (da_cons de_int (da_cons de_int (da_cons de_int da_nil)))) da_nil))) da_nil))))
    (dss_cons (ds_setLc (j := 8) sc_law.nd (di_seq (de_lst (da_cons (de_tup da_nil) (da_cons (de_tup (da_cons de_int (da_cons de_int da_nil))) (da_cons (de_tup (da_cons de_int (da_cons de_int da_nil))) (da_cons (de_tup (da_cons de_int (da_cons de_int (da_cons de_int da_nil)))) da_nil)))))) (blkOk_by (N := ["script", "source", "lap", "n", "m", "deeds", "deed", "book", "told", "k", "word"]) (sc := defScope s_law) (own := [("word", 10)]) (by decide +kernel)) rfl (fun _ _ _ _ _ => (dg_name (i := 10) sc_law.nd)) (fun _ _ _ _ _ => dts_nil) (fun _ _ _ _ _ => (de_call (ok_done T) grd (room.mono (by decide)) rfl T.m_done T.F_done.kp T.b_done (da_cons (dv 7) (da_cons (dv 10) da_nil)))))
    (dss_one (ds_ret (de_and (de_cmp (o_eqA room) (dv 8) (de_lst (da_cons (de_tup (da_cons de_int (da_cons de_int (da_cons de_int da_nil)))) (da_cons (de_tup (da_cons de_int (da_cons de_int (da_cons de_int da_nil)))) (da_cons (de_tup (da_cons de_int (da_cons de_int (da_cons de_int da_nil)))) (da_cons (de_tup (da_cons de_int (da_cons de_int (da_cons de_int da_nil)))) da_nil)))))) (de_one (de_cmp (o_eqA room) (de_lst (da_cons (de_call (ok_held T) grd (room.mono (by decide)) rfl T.m_held T.F_held.kp T.b_held (da_cons (de_ix (dv 8) de_int) da_nil)) (da_cons (de_call (ok_reach T) grd (room.mono (by decide)) rfl T.m_reach T.F_reach.kp T.b_reach (da_cons (de_ix (dv 8) de_int) da_nil)) da_nil))) (de_lst (da_cons (de_tup (da_cons de_int da_nil)) (da_cons (de_tup (da_cons de_int (da_cons de_int da_nil))) da_nil)))))))))))
    (by decide) scr (by omega) ?_ k
  walk_at "w0"
  refine wFor_n (l := List.range 12) (hiR (by omega) (by intro χ q; walk_at "w0"; exact q)) (fun _ ρ => ∃ o2 o3 o4 o5 o6, ρ = [none, some .src, o2, o3, o4, o5, o6, none, none, none, none]) ⟨_, _, _, _, _, rfl⟩ (fun i x ρ' e inv => ?_) (fun ρ' inv => ?_)
  · obtain ⟨o2, o3, o4, o5, o6, rfl⟩ := inv
    walk_at "w0"
    refine ⟨_, rfl, by omega, fun r hr => ?_⟩
    walk_at "w0"
    refine ⟨_, rfl, by omega, fun r2 hr2 => ?_⟩
    walk_at "w0"
    refine ⟨_, rfl, by omega, fun r3 hr3 => ?_⟩
    walk_at "w0"
    refine ⟨.inl ⟨by omega, by by_cases z : (r3 : Int) = 0 <;> simp [z] <;> omega⟩, ?_⟩
    have hm : ∃ m : Nat, ((r2 : Int) * if (r3 : Int) = 0 then 1 else 0) = (m : Int) ∧ m ≤ 8 := by
      by_cases z : (r3 : Int) = 0
      · exact ⟨r2, by rw [if_pos z, Int.mul_one], by omega⟩
      · exact ⟨0, by rw [if_neg z, Int.mul_zero]; rfl, by omega⟩
    obtain ⟨m, em, hm⟩ := hm
    have hn : ∃ n : Nat, (1 + (r : Int)) = (n : Int) ∧ 1 ≤ n ∧ n ≤ 8 := ⟨1 + r, by omega, by omega, by omega⟩
    obtain ⟨n, en, hn1, hn2⟩ := hn
    rw [em, en]
    refine wLc_into ?_
    walk_at "w0"
    refine ⟨_, rfl, by omega, fun r4 hr4 => ?_⟩
    walk_at "w0"
    refine ⟨by omega, by omega, ?_⟩
    refine wLc_any (xs := rngD 0 r4) (fun _ y => ∃ b, y = tN b ∧ b.length = n + m ∧ ∀ x ∈ b, x < n + m) (fun ψ q => q) (by rw [rng_len, sizeLine_eq]; omega) (fun d hd ψ q => ?_) fun ys y1 y2 => ?_
    · walk_at "w0"
      exact ⟨n, m, rfl, by omega, by omega, by omega, fun b b1 b2 => q _ ⟨b, rfl, b1, b2⟩⟩
    · obtain ⟨ds, rfl, hds⟩ := all_tN (P := fun b => b.length = n + m ∧ ∀ x ∈ b, x < n + m) ys fun d hd => by
        obtain ⟨i, hi, e⟩ := List.mem_iff_getElem.mp hd
        exact y2 i _ d (List.getElem?_eq_getElem (by omega)) (by rw [← e]; simp [hi])
      rw [List.length_map, rng_len] at y1
      walk_at "w0"
      refine wFor_by (xs := ds.map tN) (by intro ψ q; walk_at "w0"; exact q) (fun _ ρ => ∃ o6, ρ = [none, some .src, some (.dat (nI x)), some (.dat (nI n)), some (.dat (nI m)), some (.dat (.tuple (ds.map tN))), o6, none, none, none, none]) ⟨_, rfl⟩ (fun i d ρ' e inv => ?_) (fun ρ' inv => ?_)
      · obtain ⟨o6, rfl⟩ := inv
        obtain ⟨b, hb, rfl⟩ := List.mem_map.mp (List.mem_of_getElem? e)
        obtain ⟨b1, b2⟩ := hds b hb
        walk_at "w0"
        exact ⟨b, rfl, by omega, by rw [b1]; exact b2, true, rfl, _, rfl⟩
      · obtain ⟨o6, rfl⟩ := inv
        walk_at "w0"
        refine ⟨n, m, rfl, by omega, by omega, by omega, fun b b1 b2 => ?_⟩
        exact ⟨n + m, ds, b, by rw [← Int.natCast_add], by omega, by omega, by omega, ⟨fun d h => (hds d h).1, fun d h => (hds d h).2⟩, b1, b2, true, rfl, _, rfl⟩
  · obtain ⟨o2, o3, o4, o5, o6, rfl⟩ := inv
    walk_at "w0"
    refine wLc_into ?_
    walk_at "w0"
    refine wLc_map (xs := [tN [], tN [0, 1], tN [1, 0], tN [0, 0, 0]]) toldC (fun ψ q => q) (by rw [sizeLine_eq]; decide) (fun d hd ψ q => ?_) ?_
    · walk_at "w0"
      rcases List.mem_cons.mp hd with rfl | hd
      · exact ⟨3, bkC, [], rfl, by omega, bkC_ok, by decide, q⟩
      rcases List.mem_cons.mp hd with rfl | hd
      · exact ⟨3, bkC, [0, 1], rfl, by omega, bkC_ok, by decide, q⟩
      rcases List.mem_cons.mp hd with rfl | hd
      · exact ⟨3, bkC, [1, 0], rfl, by omega, bkC_ok, by decide, q⟩
      rw [List.mem_singleton.mp hd] at q ⊢
      exact ⟨3, bkC, [0, 0, 0], rfl, by omega, bkC_ok, by decide, q⟩
    · have e : [tN [], tN [0, 1], tN [1, 0], tN [0, 0, 0]].map toldC = [tN [0, 1, 2], tN [0, 2, 0], tN [1, 1, 0], tN [0, 1, 2]] := rfl
      rw [e]
      walk_at "w0"
      refine ⟨by rfl, by rfl, ?_⟩
      rw [if_pos (by rfl)]
      refine ⟨_, rfl, [0, 2, 0], rfl, by decide, _, rfl, 3, [1, 1, 0], rfl, by decide, by decide, _, rfl, by decide, by rfl, by rfl, by rfl⟩

end
theorem all_mk {l : PySem.W.OpenLaw} {w : World} {K : PySem.W.Frag} {h : Heap} {mg : Str → Option Value} {fa : Addr} (X : K.In h) (G : h.Ns mainGlobals mg) (hfa : mg "law" = some (.ref fa))
    {od0 an0 : Option Addr} {sl0 : Array (Option Value)} {oc0 kV0 dc0 pm0 cd0 ct0 : Value} {f0 : Addr}
    {od1 an1 : Option Addr} {sl1 : Array (Option Value)} {oc1 kV1 dc1 pm1 cd1 ct1 : Value} {f1 : Addr}
    {od2 an2 : Option Addr} {sl2 : Array (Option Value)} {oc2 kV2 dc2 pm2 cd2 ct2 : Value} {f2 : Addr}
    {od3 an3 : Option Addr} {sl3 : Array (Option Value)} {oc3 kV3 dc3 pm3 cd3 ct3 : Value} {f3 : Addr}
    {od4 an4 : Option Addr} {sl4 : Array (Option Value)} {oc4 kV4 dc4 pm4 cd4 ct4 : Value} {f4 : Addr}
    {od5 an5 : Option Addr} {sl5 : Array (Option Value)} {oc5 kV5 dc5 pm5 cd5 ct5 : Value} {f5 : Addr}
    {od6 an6 : Option Addr} {sl6 : Array (Option Value)} {oc6 kV6 dc6 pm6 cd6 ct6 : Value} {f6 : Addr}
    {od7 an7 : Option Addr} {sl7 : Array (Option Value)} {oc7 kV7 dc7 pm7 cd7 ct7 : Value} {f7 : Addr}
    {od8 an8 : Option Addr} {sl8 : Array (Option Value)} {oc8 kV8 dc8 pm8 cd8 ct8 : Value} {f8 : Addr}
    {od9 an9 : Option Addr} {sl9 : Array (Option Value)} {oc9 kV9 dc9 pm9 cd9 ct9 : Value} {f9 : Addr}
    {od10 an10 : Option Addr} {sl10 : Array (Option Value)} {oc10 kV10 dc10 pm10 cd10 ct10 : Value} {f10 : Addr}
    {od11 an11 : Option Addr} {sl11 : Array (Option Value)} {oc11 kV11 dc11 pm11 cd11 ct11 : Value} {f11 : Addr}
    {od12 an12 : Option Addr} {sl12 : Array (Option Value)} {oc12 kV12 dc12 pm12 cd12 ct12 : Value} {f12 : Addr}
    {od13 an13 : Option Addr} {sl13 : Array (Option Value)} {oc13 kV13 dc13 pm13 cd13 ct13 : Value} {f13 : Addr}
    {od14 an14 : Option Addr} {sl14 : Array (Option Value)} {oc14 kV14 dc14 pm14 cd14 ct14 : Value} {f14 : Addr}
    {od15 an15 : Option Addr} {sl15 : Array (Option Value)} {oc15 kV15 dc15 pm15 cd15 ct15 : Value} {f15 : Addr}
    {od16 an16 : Option Addr} {sl16 : Array (Option Value)} {oc16 kV16 dc16 pm16 cd16 ct16 : Value} {f16 : Addr}
    (a0 : PySem.W.nsIn K mainGlobals "idle" = some (some (.ref f0))) (l0 : K.lookup f0 = some ⟨oc0, od0, .func (PySem.W.fnOf "idle" "idle" (defArgs s_idle) (defBody s_idle) (defScope s_idle) .none kV0 dc0 pm0 an0 cd0 ct0), sl0⟩) (c0 : PySem.W.codeIn K cd0 "idle" = true) (k0 : PySem.W.keepIn K (.ref f0) = true)
    (a1 : PySem.W.nsIn K mainGlobals "product" = some (some (.ref f1))) (l1 : K.lookup f1 = some ⟨oc1, od1, .func (PySem.W.fnOf "product" "product" (defArgs s_product) (defBody s_product) (defScope s_product) .none kV1 dc1 pm1 an1 cd1 ct1), sl1⟩) (c1 : PySem.W.codeIn K cd1 "product" = true) (k1 : PySem.W.keepIn K (.ref f1) = true)
    (a2 : PySem.W.nsIn K mainGlobals "done" = some (some (.ref f2))) (l2 : K.lookup f2 = some ⟨oc2, od2, .func (PySem.W.fnOf "done" "done" (defArgs s_done) (defBody s_done) (defScope s_done) .none kV2 dc2 pm2 an2 cd2 ct2), sl2⟩) (c2 : PySem.W.codeIn K cd2 "done" = true) (k2 : PySem.W.keepIn K (.ref f2) = true)
    (a3 : PySem.W.nsIn K mainGlobals "held" = some (some (.ref f3))) (l3 : K.lookup f3 = some ⟨oc3, od3, .func (PySem.W.fnOf "held" "held" (defArgs s_held) (defBody s_held) (defScope s_held) .none kV3 dc3 pm3 an3 cd3 ct3), sl3⟩) (c3 : PySem.W.codeIn K cd3 "held" = true) (k3 : PySem.W.keepIn K (.ref f3) = true)
    (a4 : PySem.W.nsIn K mainGlobals "reach" = some (some (.ref f4))) (l4 : K.lookup f4 = some ⟨oc4, od4, .func (PySem.W.fnOf "reach" "reach" (defArgs s_reach) (defBody s_reach) (defScope s_reach) .none kV4 dc4 pm4 an4 cd4 ct4), sl4⟩) (c4 : PySem.W.codeIn K cd4 "reach" = true) (k4 : PySem.W.keepIn K (.ref f4) = true)
    (a5 : PySem.W.nsIn K mainGlobals "rank" = some (some (.ref f5))) (l5 : K.lookup f5 = some ⟨oc5, od5, .func (PySem.W.fnOf "rank" "rank" (defArgs s_rank) (defBody s_rank) (defScope s_rank) .none kV5 dc5 pm5 an5 cd5 ct5), sl5⟩) (c5 : PySem.W.codeIn K cd5 "rank" = true) (k5 : PySem.W.keepIn K (.ref f5) = true)
    (a6 : PySem.W.nsIn K mainGlobals "is_settled" = some (some (.ref f6))) (l6 : K.lookup f6 = some ⟨oc6, od6, .func (PySem.W.fnOf "is_settled" "is_settled" (defArgs s_is_settled) (defBody s_is_settled) (defScope s_is_settled) .none kV6 dc6 pm6 an6 cd6 ct6), sl6⟩) (c6 : PySem.W.codeIn K cd6 "is_settled" = true) (k6 : PySem.W.keepIn K (.ref f6) = true)
    (a7 : PySem.W.nsIn K mainGlobals "_law_source" = some (some (.ref f7))) (l7 : K.lookup f7 = some ⟨oc7, od7, .func (PySem.W.fnOf "_law_source" "_law_source" (defArgs s__law_source) (defBody s__law_source) (defScope s__law_source) .none kV7 dc7 pm7 an7 cd7 ct7), sl7⟩) (c7 : PySem.W.codeIn K cd7 "_law_source" = true) (k7 : PySem.W.keepIn K (.ref f7) = true)
    (a8 : PySem.W.nsIn K mainGlobals "_law_pick" = some (some (.ref f8))) (l8 : K.lookup f8 = some ⟨oc8, od8, .func (PySem.W.fnOf "_law_pick" "_law_pick" (defArgs s__law_pick) (defBody s__law_pick) (defScope s__law_pick) .none kV8 dc8 pm8 an8 cd8 ct8), sl8⟩) (c8 : PySem.W.codeIn K cd8 "_law_pick" = true) (k8 : PySem.W.keepIn K (.ref f8) = true)
    (a9 : PySem.W.nsIn K mainGlobals "_law_of" = some (some (.ref f9))) (l9 : K.lookup f9 = some ⟨oc9, od9, .func (PySem.W.fnOf "_law_of" "_law_of" (defArgs s__law_of) (defBody s__law_of) (defScope s__law_of) .none kV9 dc9 pm9 an9 cd9 ct9), sl9⟩) (c9 : PySem.W.codeIn K cd9 "_law_of" = true) (k9 : PySem.W.keepIn K (.ref f9) = true)
    (a10 : PySem.W.nsIn K mainGlobals "_law_mixed" = some (some (.ref f10))) (l10 : K.lookup f10 = some ⟨oc10, od10, .func (PySem.W.fnOf "_law_mixed" "_law_mixed" (defArgs s__law_mixed) (defBody s__law_mixed) (defScope s__law_mixed) .none kV10 dc10 pm10 an10 cd10 ct10), sl10⟩) (c10 : PySem.W.codeIn K cd10 "_law_mixed" = true) (k10 : PySem.W.keepIn K (.ref f10) = true)
    (a11 : PySem.W.nsIn K mainGlobals "_law_deed" = some (some (.ref f11))) (l11 : K.lookup f11 = some ⟨oc11, od11, .func (PySem.W.fnOf "_law_deed" "_law_deed" (defArgs s__law_deed) (defBody s__law_deed) (defScope s__law_deed) .none kV11 dc11 pm11 an11 cd11 ct11), sl11⟩) (c11 : PySem.W.codeIn K cd11 "_law_deed" = true) (k11 : PySem.W.keepIn K (.ref f11) = true)
    (a12 : PySem.W.nsIn K mainGlobals "_law_led" = some (some (.ref f12))) (l12 : K.lookup f12 = some ⟨oc12, od12, .func (PySem.W.fnOf "_law_led" "_law_led" (defArgs s__law_led) (defBody s__law_led) (defScope s__law_led) .none kV12 dc12 pm12 an12 cd12 ct12), sl12⟩) (c12 : PySem.W.codeIn K cd12 "_law_led" = true) (k12 : PySem.W.keepIn K (.ref f12) = true)
    (a13 : PySem.W.nsIn K mainGlobals "_law_deed_right" = some (some (.ref f13))) (l13 : K.lookup f13 = some ⟨oc13, od13, .func (PySem.W.fnOf "_law_deed_right" "_law_deed_right" (defArgs s__law_deed_right) (defBody s__law_deed_right) (defScope s__law_deed_right) .none kV13 dc13 pm13 an13 cd13 ct13), sl13⟩) (c13 : PySem.W.codeIn K cd13 "_law_deed_right" = true) (k13 : PySem.W.keepIn K (.ref f13) = true)
    (a14 : PySem.W.nsIn K mainGlobals "_law_words_right" = some (some (.ref f14))) (l14 : K.lookup f14 = some ⟨oc14, od14, .func (PySem.W.fnOf "_law_words_right" "_law_words_right" (defArgs s__law_words_right) (defBody s__law_words_right) (defScope s__law_words_right) .none kV14 dc14 pm14 an14 cd14 ct14), sl14⟩) (c14 : PySem.W.codeIn K cd14 "_law_words_right" = true) (k14 : PySem.W.keepIn K (.ref f14) = true)
    (a15 : PySem.W.nsIn K mainGlobals "_law_beside" = some (some (.ref f15))) (l15 : K.lookup f15 = some ⟨oc15, od15, .func (PySem.W.fnOf "_law_beside" "_law_beside" (defArgs s__law_beside) (defBody s__law_beside) (defScope s__law_beside) .none kV15 dc15 pm15 an15 cd15 ct15), sl15⟩) (c15 : PySem.W.codeIn K cd15 "_law_beside" = true) (k15 : PySem.W.keepIn K (.ref f15) = true)
    (a16 : PySem.W.nsIn K mainGlobals "law" = some (some (.ref f16))) (l16 : K.lookup f16 = some ⟨oc16, od16, .func (PySem.W.fnOf "law" "law" (defArgs s_law) (defBody s_law) (defScope s_law) .none kV16 dc16 pm16 an16 cd16 ct16), sl16⟩) (c16 : PySem.W.codeIn K cd16 "law" = true) (k16 : PySem.W.keepIn K (.ref f16) = true)
    (z_abs : PySem.W.nsIn K mainGlobals "abs" = some none)
    (z_int : PySem.W.nsIn K mainGlobals "int" = some none)
    (z_len : PySem.W.nsIn K mainGlobals "len" = some none)
    (z_list : PySem.W.nsIn K mainGlobals "list" = some none)
    (z_max : PySem.W.nsIn K mainGlobals "max" = some none)
    (z_min : PySem.W.nsIn K mainGlobals "min" = some none)
    (z_range : PySem.W.nsIn K mainGlobals "range" = some none)
    (z_repr : PySem.W.nsIn K mainGlobals "repr" = some none)
    (z_set : PySem.W.nsIn K mainGlobals "set" = some none)
    (z_sorted : PySem.W.nsIn K mainGlobals "sorted" = some none)
    (z_tuple : PySem.W.nsIn K mainGlobals "tuple" = some none) :
    ∃ fd : FuncData, (∀ (s : Shared) (v : Value), BindsTo s fd ⟨[v], []⟩ [("script", v)]) ∧ ∀ base : Heap, K.In base → base.Ns mainGlobals mg → FnG l.prog w K mg base CX0 5 fa fd ["script"] (sp_law K) := by
  have e := hfa.symm.trans (PySem.W.mg_of X G a16)
  cases e
  have F0 := fun_mk (st := s_idle) l0 c0 k0
  have F1 := fun_mk (st := s_product) l1 c1 k1
  have F2 := fun_mk (st := s_done) l2 c2 k2
  have F3 := fun_mk (st := s_held) l3 c3 k3
  have F4 := fun_mk (st := s_reach) l4 c4 k4
  have F5 := fun_mk (st := s_rank) l5 c5 k5
  have F6 := fun_mk (st := s_is_settled) l6 c6 k6
  have F7 := fun_mk (st := s__law_source) l7 c7 k7
  have F8 := fun_mk (st := s__law_pick) l8 c8 k8
  have F9 := fun_mk (st := s__law_of) l9 c9 k9
  have F10 := fun_mk (st := s__law_mixed) l10 c10 k10
  have F11 := fun_mk (st := s__law_deed) l11 c11 k11
  have F12 := fun_mk (st := s__law_led) l12 c12 k12
  have F13 := fun_mk (st := s__law_deed_right) l13 c13 k13
  have F14 := fun_mk (st := s__law_words_right) l14 c14 k14
  have F15 := fun_mk (st := s__law_beside) l15 c15 k15
  have F16 := fun_mk (st := s_law) l16 c16 k16
  let T : Tx K mg := {
    f_idle := f0, d_idle := _, F_idle := F0, m_idle := PySem.W.mg_of X G a0, b_idle := F0.binds (ps := ["n"]) (fun _ _ _ _ _ _ us hl => match us, hl with | [_], _ => rfl),
    f_product := f1, d_product := _, F_product := F1, m_product := PySem.W.mg_of X G a1, b_product := F1.binds (ps := ["deed", "other"]) (fun _ _ _ _ _ _ us hl => match us, hl with | [_, _], _ => rfl),
    f_done := f2, d_done := _, F_done := F2, m_done := PySem.W.mg_of X G a2, b_done := F2.binds (ps := ["book", "word"]) (fun _ _ _ _ _ _ us hl => match us, hl with | [_, _], _ => rfl),
    f_held := f3, d_held := _, F_held := F3, m_held := PySem.W.mg_of X G a3, b_held := F3.binds (ps := ["deed"]) (fun _ _ _ _ _ _ us hl => match us, hl with | [_], _ => rfl),
    f_reach := f4, d_reach := _, F_reach := F4, m_reach := PySem.W.mg_of X G a4, b_reach := F4.binds (ps := ["deed"]) (fun _ _ _ _ _ _ us hl => match us, hl with | [_], _ => rfl),
    f_rank := f5, d_rank := _, F_rank := F5, m_rank := PySem.W.mg_of X G a5, b_rank := F5.binds (ps := ["deed"]) (fun _ _ _ _ _ _ us hl => match us, hl with | [_], _ => rfl),
    f_is_settled := f6, d_is_settled := _, F_is_settled := F6, m_is_settled := PySem.W.mg_of X G a6, b_is_settled := F6.binds (ps := ["deed"]) (fun _ _ _ _ _ _ us hl => match us, hl with | [_], _ => rfl),
    f__law_source := f7, d__law_source := _, F__law_source := F7, m__law_source := PySem.W.mg_of X G a7, b__law_source := F7.binds (ps := ["script"]) (fun _ _ _ _ _ _ us hl => match us, hl with | [_], _ => rfl),
    f__law_pick := f8, d__law_pick := _, F__law_pick := F8, m__law_pick := PySem.W.mg_of X G a8, b__law_pick := F8.binds (ps := ["source", "many"]) (fun _ _ _ _ _ _ us hl => match us, hl with | [_, _], _ => rfl),
    f__law_of := f9, d__law_of := _, F__law_of := F9, m__law_of := PySem.W.mg_of X G a9, b__law_of := F9.binds (ps := ["source", "things"]) (fun _ _ _ _ _ _ us hl => match us, hl with | [_, _], _ => rfl),
    f__law_mixed := f10, d__law_mixed := _, F__law_mixed := F10, m__law_mixed := PySem.W.mg_of X G a10, b__law_mixed := F10.binds (ps := ["source", "things"]) (fun _ _ _ _ _ _ us hl => match us, hl with | [_, _], _ => rfl),
    f__law_deed := f11, d__law_deed := _, F__law_deed := F11, m__law_deed := PySem.W.mg_of X G a11, b__law_deed := F11.binds (ps := ["source", "n", "way"]) (fun _ _ _ _ _ _ us hl => match us, hl with | [_, _, _], _ => rfl),
    f__law_led := f12, d__law_led := _, F__law_led := F12, m__law_led := PySem.W.mg_of X G a12, b__law_led := F12.binds (ps := ["book", "word", "place"]) (fun _ _ _ _ _ _ us hl => match us, hl with | [_, _, _], _ => rfl),
    f__law_deed_right := f13, d__law_deed_right := _, F__law_deed_right := F13, m__law_deed_right := PySem.W.mg_of X G a13, b__law_deed_right := F13.binds (ps := ["deed"]) (fun _ _ _ _ _ _ us hl => match us, hl with | [_], _ => rfl),
    f__law_words_right := f14, d__law_words_right := _, F__law_words_right := F14, m__law_words_right := PySem.W.mg_of X G a14, b__law_words_right := F14.binds (ps := ["source", "book", "deed"]) (fun _ _ _ _ _ _ us hl => match us, hl with | [_, _, _], _ => rfl),
    f__law_beside := f15, d__law_beside := _, F__law_beside := F15, m__law_beside := PySem.W.mg_of X G a15, b__law_beside := F15.binds (ps := ["source", "n", "m"]) (fun _ _ _ _ _ _ us hl => match us, hl with | [_, _, _], _ => rfl),
    f_law := fa, d_law := _, F_law := F16, m_law := PySem.W.mg_of X G a16, b_law := F16.binds (ps := ["script"]) (fun _ _ _ _ _ _ us hl => match us, hl with | [_], _ => rfl),
    z_abs := PySem.W.mg_none_of X G z_abs,
    z_int := PySem.W.mg_none_of X G z_int,
    z_len := PySem.W.mg_none_of X G z_len,
    z_list := PySem.W.mg_none_of X G z_list,
    z_max := PySem.W.mg_none_of X G z_max,
    z_min := PySem.W.mg_none_of X G z_min,
    z_range := PySem.W.mg_none_of X G z_range,
    z_repr := PySem.W.mg_none_of X G z_repr,
    z_set := PySem.W.mg_none_of X G z_set,
    z_sorted := PySem.W.mg_none_of X G z_sorted,
    z_tuple := PySem.W.mg_none_of X G z_tuple }
  exact ⟨T.d_law, fun s v => .of_eq rfl, fun base _ _ => ok_law (P := l.prog) (w := w) (base := base) T⟩
end L_drawndeeds_k02_whole_deeds_done
open PySem PySem.W PyProof.Rows
set_option maxRecDepth 100000 in
set_option maxHeartbeats 0 in
theorem PySem.Challenge.cw_drawndeeds_k02_whole_deeds_done_holds : PySem.Challenge.rw_drawndeeds_k02_whole_deeds_done.Holds := by
  w_on; o_law; k_head; (case hw => w_witness2)
  k_fill
  refine Vf.walkG (l := PySem.Challenge.rw_drawndeeds_k02_whole_deeds_done) (n := 63) (k := 5) (x := "script") (sp := Vf.sp_law) rfl (by decide) rfl ⟨rfl, by decide, by decide⟩ (fun w h Y => PySem.W.kIn_of Y) ?F (fun K H a ns h1 h2 => Vf.start_law h1 h2)
  case F =>
    intro w mg fa h KX G hmg
    refine' L_drawndeeds_k02_whole_deeds_done.all_mk KX G hmg ?a0 ?l0 ?c0 ?k0 ?a1 ?l1 ?c1 ?k1 ?a2 ?l2 ?c2 ?k2 ?a3 ?l3 ?c3 ?k3 ?a4 ?l4 ?c4 ?k4 ?a5 ?l5 ?c5 ?k5 ?a6 ?l6 ?c6 ?k6 ?a7 ?l7 ?c7 ?k7 ?a8 ?l8 ?c8 ?k8 ?a9 ?l9 ?c9 ?k9 ?a10 ?l10 ?c10 ?k10 ?a11 ?l11 ?c11 ?k11 ?a12 ?l12 ?c12 ?k12 ?a13 ?l13 ?c13 ?k13 ?a14 ?l14 ?c14 ?k14 ?a15 ?l15 ?c15 ?k15 ?a16 ?l16 ?c16 ?k16 ?z_abs ?z_int ?z_len ?z_list ?z_max ?z_min ?z_range ?z_repr ?z_set ?z_sorted ?z_tuple
    (case a0 => k_is)
    (case l0 => k_is)
    (case c0 => k_is)
    (case k0 => k_is)
    (case a1 => k_is)
    (case l1 => k_is)
    (case c1 => k_is)
    (case k1 => k_is)
    (case a2 => k_is)
    (case l2 => k_is)
    (case c2 => k_is)
    (case k2 => k_is)
    (case a3 => k_is)
    (case l3 => k_is)
    (case c3 => k_is)
    (case k3 => k_is)
    (case a4 => k_is)
    (case l4 => k_is)
    (case c4 => k_is)
    (case k4 => k_is)
    (case a5 => k_is)
    (case l5 => k_is)
    (case c5 => k_is)
    (case k5 => k_is)
    (case a6 => k_is)
    (case l6 => k_is)
    (case c6 => k_is)
    (case k6 => k_is)
    (case a7 => k_is)
    (case l7 => k_is)
    (case c7 => k_is)
    (case k7 => k_is)
    (case a8 => k_is)
    (case l8 => k_is)
    (case c8 => k_is)
    (case k8 => k_is)
    (case a9 => k_is)
    (case l9 => k_is)
    (case c9 => k_is)
    (case k9 => k_is)
    (case a10 => k_is)
    (case l10 => k_is)
    (case c10 => k_is)
    (case k10 => k_is)
    (case a11 => k_is)
    (case l11 => k_is)
    (case c11 => k_is)
    (case k11 => k_is)
    (case a12 => k_is)
    (case l12 => k_is)
    (case c12 => k_is)
    (case k12 => k_is)
    (case a13 => k_is)
    (case l13 => k_is)
    (case c13 => k_is)
    (case k13 => k_is)
    (case a14 => k_is)
    (case l14 => k_is)
    (case c14 => k_is)
    (case k14 => k_is)
    (case a15 => k_is)
    (case l15 => k_is)
    (case c15 => k_is)
    (case k15 => k_is)
    (case a16 => k_is)
    (case l16 => k_is)
    (case c16 => k_is)
    (case k16 => k_is)
    (case z_abs => k_is)
    (case z_int => k_is)
    (case z_len => k_is)
    (case z_list => k_is)
    (case z_max => k_is)
    (case z_min => k_is)
    (case z_range => k_is)
    (case z_repr => k_is)
    (case z_set => k_is)
    (case z_sorted => k_is)
    (case z_tuple => k_is)
