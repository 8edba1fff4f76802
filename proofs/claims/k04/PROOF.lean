import PyProof.Rows.All
import Wide.All
import OpenK.AllK
import Wide.FinOn
import HandS.ForMost
import HandS.Exc
import HandS.TryMany
import HandS.IsInst
import HandS.Property
import HandS.ClsMeth
import HandS.WideBits
import HandS.TupAny
import HandS.Defaults
import HandS.MakeKw
import HandS.Deep
import HandS.Walk
import HandS.RaiseMore
import KE.GoesEnum
import HandS.Style
import HandS.More
import HandS.Evl
import HandS.MakeKwOnly
import HandS.OwnEq
import KE.KCallOwn
import PyProof.InstEq
import KE.KUnpackStar
import HandS.Text
import HandS.TryOnly
import HandS.CallLocal
import HandS.Small
import OpenK.KOps
import PyProof.EqKinds
import PyProof.MeetsIn
import HandS.Lambda
import HandS.Nested
import HandS.EndTab
import HandS.ExcInit
import HandS.ExcIs
import HandS.ExcField
import HandS.ExcCtx
import HandS.HotCalls
import HandS.ExcInitHot
import KE.KTryMore
import KE.KExcIs
import HandS.FStr
import HandS.Star
import HandS.Zip
import PySem.Challenge.RW_forcedsteer_k04_ties_refused
set_option Elab.async false
set_option linter.all false
set_option maxRecDepth 100000
set_option maxHeartbeats 8000000
namespace Fs
open PySem PySem.Spec PyProof.Rows L2
section
variable {X : Cx}
/-! ### in, not in of a tuple of data -/
def inT (K : PySem.W.Frag) : R2 := fun p q G Z =>
  ∃ dp ds, Dp K G p dp ∧ Dp K G q (.tuple ds) ∧ SeqAt.shaped dp = true ∧ SeqAt.shaped (.tuple ds) = true ∧
    Z (.bl (ds.any fun z => PyData.eqv z dp)) G
theorem op_inT (room : X.A.units + 65 < cLine) : OpR X (compareOp .In) (inT X.K) := by
  intro ps st sg G p q vp vq Z J rp rq ⟨dp, ds, h1, h2, s1, s2, z⟩
  obtain ⟨as, r1⟩ := Dp.reads J dp p vp h1 rp
  obtain ⟨bs, r2⟩ := Dp.reads J (.tuple ds) q vq h2 rq
  exact SeqAt.in_tuple_reads r2 r1 (SeqAt.canLay_of_shaped s2) (SeqAt.canLay_of_shaped s1)
    (room_in_shaped s1 room) ⟨.bl _, G, J, rfl, z⟩
def notInT (K : PySem.W.Frag) : R2 := fun p q G Z =>
  ∃ dp ds, Dp K G p dp ∧ Dp K G q (.tuple ds) ∧ SeqAt.shaped dp = true ∧ SeqAt.shaped (.tuple ds) = true ∧
    Z (.bl (!ds.any fun z => PyData.eqv z dp)) G
theorem op_notInT (room : X.A.units + 65 < cLine) : OpR X (compareOp .NotIn) (notInT X.K) := by
  intro ps st sg G p q vp vq Z J rp rq ⟨dp, ds, h1, h2, s1, s2, z⟩
  obtain ⟨as, r1⟩ := Dp.reads J dp p vp h1 rp
  obtain ⟨bs, r2⟩ := Dp.reads J (.tuple ds) q vq h2 rq
  exact SeqAt.notIn_tuple_reads r2 r1 (SeqAt.canLay_of_shaped s2) (SeqAt.canLay_of_shaped s1)
    (room_in_shaped s1 room) ⟨.bl _, G, J, rfl, z⟩
/-! ### repr of data that stands at an address -/
theorem dp_noDict {K : PySem.W.Frag} {G : Hp} : ∀ (d : PyData) {v : V}, Dp K G v d → d.canLay0 = true → d.hasDict = false :=
  fun d _ _ h => PyData.hasDict_of_canLay d h
def reprR (K : PySem.W.Frag) : List V → Hp → VK → Prop := fun xs G Z =>
  ∃ (a : Addr) (d : PyData), xs = [.ref a] ∧ Dp K G (.ref a) d ∧ d.showable = true ∧ SeqAt.shaped d = true ∧ d.shown.length ≤ sizeLine ∧ Z (.str d.shown) G
theorem call_reprD (room : X.A.units + 65 < cLine) (hg : X.A.guards = some []) : CallR X (.builtin "repr") (reprR X.K) := by
  intro ps st sg G xs us Z J r ⟨a, d, e, h, s1, s2, hz, z⟩
  subst e
  rw [Vals.ref1 r]
  obtain ⟨as, r1⟩ := Dp.reads J d (.ref a) (.ref a) h rfl
  have hd := SeqAt.depth_of_shaped s2
  refine repr_of_reads' r1 s1 (PyData.noDict_hsm (PyData.hasDict_of_canLay d (SeqAt.canLay_of_shaped s2))) hg (by omega) (fun _ _ q => q) (fun h' u tk hk => ?_) hz
  exact ⟨.str _, G, J.kept (t' := tk) hk, ⟨_, rfl⟩, z⟩
end
end Fs

namespace Fs
open PySem PySem.Spec PyProof.Rows L2
/-! ### a def's promise where no repr is under way around it -/
structure FnG (P : Program) (w : World) (K : PySem.W.Frag) (mg : Str → Option Value) (base : Heap) (ex : CXT) (n : Nat) (f : Addr)
    (fd : FuncData) (ps : List Str) (sp : Sp) : Prop where
  len : ∀ vs G Z E, sp vs G Z E → vs.length = ps.length
  run : ∀ (A : Around) (out : List Env) (st : Shared) (G : Hp) (args : Args) (us : List Value) (vs : List V) (Z : VK) (E : XK),
    Room n A → A.guards = some [] → Env0 P w K mg base A out st G → BindsTo st fd args (ps.zip us) → Vals vs us → sp vs G Z E →
      codeAny (model P w) A (.call (.ref f) args) (CR ex out P w G st Z E) st
section
variable {P : Program} {w : World} {K : PySem.W.Frag} {mg : Str → Option Value} {base : Heap} {ex : CXT} {n : Nat} {f : Addr} {fd : FuncData} {ps : List Str} {sp : Sp}
theorem FnG.of (F : FnOk P w K mg base ex n f fd ps sp) : FnG P w K mg base ex n f fd ps sp :=
  ⟨F.len, fun A out st G args us vs Z E hr _ => F.run A out st G args us vs Z E hr⟩
theorem FnG.mkX {x qual : Str} {d : Stmt} {N : List Str} (F : Fun K x qual d f fd) (S : FnScope N ps (defScope d))
    (len : ∀ vs G Z E, sp vs G Z E → vs.length = ps.length)
    (body : ∀ (cdv : Value) (A : Around) (out : List Env) (st : Shared) (G : Hp) (vs : List V) (Z : VK) (E : XK),
      Room n (A.deeper (envOfC qual (defScope d) st.heap.objs.size f cdv)) → A.guards = some [] → sp vs G Z E →
        ∃ t, PSs (cxOf ex P w K mg base N qual (defScope d) f cdv A out st G E) (defBody d) t ∧
          t { nx := fun _ G' => Z .non G', rt := Z } (start N vs) G) :
    FnG P w K mg base ex (n + 1) f fd ps sp := by
  obtain ⟨oc, od, kV, doc, pm, an, cdv, ct, osl, rfl, at_, code⟩ := F.ex
  refine ⟨len, fun A out st G args us vs Z E room gs env bind rel want => ?_⟩
  have older : ∀ b o, base.get? b = some o → st.heap.get? b = some o := fun b o q => (env.bs b o q).1
  have inK := env.mod.kin.keeps older
  refine codeAny_call_function room.depth (inK _ _ at_) rfl S.co S.gen rfl (PySem.W.codeRec_of inK code) (bind _ _ _ _ ?_)
  refine wpAny_newFunctionEnv_cells S.kind ?_ fun e0 eq0 st1 made => ?_
  · rintro ⟨nm, v⟩ mem
    exact (S.par nm (List.of_mem_zip mem).1).imp id fun q => ⟨q, PySem.W.cellsFrom_some _ _ _ (.inl q)⟩
  · subst eq0
    refine ⟨(env.mod.nolimit.keeps older).keeps made.toInCall.keep, codeAny_func ?_⟩
    obtain ⟨t, der, good⟩ := body cdv A out st G vs Z E (room.deeper _) gs want
    have start0 := inv_start (CX := ex) S room.hd env (len _ _ _ _ want) rel made (E := E)
    refine wpAny_mono (der.run [] st1 (start N vs) G _ start0 good) (fun fl st2 fin => ?_) fun _ _ q => q
    cases fl with
    | brk =>
      obtain ⟨_, _, _, no⟩ := fin
      exact no.elim
    | cont =>
      obtain ⟨_, _, _, no⟩ := fin
      exact no.elim
    | next =>
      obtain ⟨sg, G2, J, z⟩ := fin
      exact ⟨.non, G2, J.os, J.bare, J.base, J.hok, rfl, z⟩
    | ret u =>
      obtain ⟨v, sg, G2, J, rv, z⟩ := fin
      exact ⟨v, G2, J.os, J.bare, J.base, J.hok, rv, z⟩
theorem FnG.mk' {x qual : Str} {d : Stmt} {N : List Str} (F : Fun K x qual d f fd) (S : FnScope N ps (defScope d))
    (len : ∀ vs G Z E, sp vs G Z E → vs.length = ps.length)
    (body : ∀ (cdv : Value) (A : Around) (out : List Env) (st : Shared) (G : Hp) (vs : List V) (Z : VK) (E : XK),
      Room n (A.deeper (envOfC qual (defScope d) st.heap.objs.size f cdv)) → A.guards = some [] → sp vs G Z E →
        ∃ t, PSs (cxOf CX0 P w K mg base N qual (defScope d) f cdv A out st G E).nox (defBody d) t ∧
          t { nx := fun _ G' => Z .non G', rt := Z } (start N vs) G) :
    FnG P w K mg base CX0 (n + 1) f fd ps sp :=
  FnG.mkX F S len fun cdv A out st G vs Z E hr gs h => (body cdv A out st G vs Z E hr gs h).imp fun _ q => ⟨q.1.nox, q.2⟩
end
section
variable {X : Cx} {ex : CXT} {n : Nat} {f : Addr} {fd : FuncData} {ps : List Str} {sp : Sp} {dvs : List V} {ds : List Value} {E : XK} {x : Str} {e : Expr} {es : List Expr} {t : TA} {p pos : Pos}
theorem pe_callG (F : FnG X.prog X.w X.K X.mg X.base ex n f fd ps sp) (hr : Room n X.A) (gs : X.A.guards = some []) (hg : Gl X x)
    (hm : X.mg x = some (.ref f)) (hk : PySem.W.keepIn X.K (.ref f) = true) (hb : Binds X.K fd ps ds) (hd : Vals dvs ds) (hx : Passes ex X E)
    (ha : PA X (e :: es) t) (hdb : (x == ("__debug__" : Str)) = false := by decide)
    (he : starEach (e :: es) X.env = (false, eval e X.env) :: starEach es X.env := by rfl)
    (hpl : (backTo pos (starEach es X.env)).any (·.1) = false := by rfl) :
    PE X (.Call (.Name x p) (e :: es) [] pos) (tCall sp dvs E t) := by
  refine ⟨fun pn st sg G Z J h => wpAny_Call_Name_kw (ld_glob J hg hm (PySem.W.callWith_K (h₀ := X.base) J.ok.mod.kin hk ?_ he hpl) hdb)⟩
  refine thn (ha.run pos pn st sg G _ J h) fun us st1 ⟨vs, G1, J1, rel, want⟩ => ⟨J1.kIn, wpAny_call ?_⟩
  have rel2 : Vals (vs ++ dvs) (us ++ ds) := rel.append hd
  have sz : (us ++ ds).length = ps.length := rel2.length.symm.trans (F.len _ _ _ _ want)
  refine codeAny_mono (F.run X.A X.stack st1 G1 ⟨us, []⟩ (us ++ ds) (vs ++ dvs) Z E hr gs J1.env0 (hb st1 us J1.kIn sz) rel2 want) fun r st2 fin => ?_
  cases r with
  | error er => exact hx pn sg G1 st1 er st2 J1 fin
  | ok fl =>
    cases fl with
    | ret u => exact J1.after fin
    | next => exact fin.elim
    | brk => exact fin.elim
    | cont => exact fin.elim
end
/-! ### the end of a law -/
def frozen (K : PySem.W.Frag) (a : Addr) (o : Obj) (xs : List V) : Hp := fun b =>
  if b = a ∧ K.lookup a = none then some (.frz o (.lst xs)) else none
theorem frozen_some {K : PySem.W.Frag} {a b : Addr} {o : Obj} {xs : List V} {u : HO} (h : frozen K a o xs b = some u) : b = a ∧ K.lookup a = none ∧ u = .frz o (.lst xs) := by
  unfold frozen at h
  split at h
  · next c => exact ⟨c.1, c.2, (Option.some.inj h).symm⟩
  · cases h
theorem frozen_at {K : PySem.W.Frag} {a : Addr} {o : Obj} {xs : List V} (h : K.lookup a = none) : frozen K a o xs a = some (.frz o (.lst xs)) := if_pos ⟨rfl, h⟩
theorem law_end {P : Program} {w : World} {K : PySem.W.Frag} {mg mb : Str → Option Value} {n : Nat} {fa a : Addr} {fd : FuncData} {x : Str} {sp : Sp} {st : Shared} {us : List Value} {is : List Int}
    (inK : K.In st.heap) (nm : st.heap.Ns mainGlobals mg) (nb : st.heap.Ns builtinsNs mb) (bo : ∀ y : Str, y ≠ "__name__" → mb y = bootBuiltins y) (nl : st.heap.NoLimit) (ng : st.gens = #[])
    (scr : st.heap.get? a = some { cls := .type "list", data := .seq us.toArray }) (ints0 : IntsAre us is) (small : is.length ≤ sizeLine) (hr : Room n callerA)
    (F : ∀ base : Heap, K.In base → base.Ns mainGlobals mg → FnG P w K mg base CX0 n fa fd [x] sp) (bind : ∀ (s : Shared) (u : Value), BindsTo s fd ⟨[u], []⟩ [(x, u)])
    (want : ∀ G : Hp, SqL K G a (is.map V.int) → sp [.ref a] G (fun v _ => v = .bl true) fun _ _ _ => False) :
    codeAny (model P w) callerA (.call (.ref fa) ⟨[.ref a], []⟩) (fun r s' => r = .ok (.ret (.bool true)) ∧ OldK st.heap s'.heap ∧ s'.os = st.os ∧ AllBare s'.gens) st := by
  have rel := vals_ints ints0
  have sz := ints0.length
  let ob : Obj := { cls := .type "list", data := .seq us.toArray }
  let G : Hp := frozen K a ob (is.map V.int)
  have seq : SqL K G a (is.map V.int) := by
    cases c : K.lookup a with
    | none => exact .inl (.inr ⟨ob, frozen_at c⟩)
    | some o =>
      have same := inK a o c
      rw [scr] at same
      cases same
      exact .inr ⟨_, us.toArray, _, c, rfl, rfl, rfl, by rw [List.size_toArray, sz]; exact small, by simpa using rel⟩
  have held : HOk P w G st.heap := fun b u h => by
    obtain ⟨rfl, _, rfl⟩ := frozen_some h
    exact ⟨scr, by rw [List.length_map]; exact small, us, _, rel, scr⟩
  -- what is no script is no tracked thing
  have other : ∀ {b : Addr} {o : Obj} {es : Array DictEntry} {ep : Nat}, st.heap.get? b = some o → o.data = .dict es ep → G b = none := fun {b o es ep} h d => by
    cases c : G b with
    | none => rfl
    | some u =>
      obtain ⟨rfl, _, _⟩ := frozen_some c
      rw [scr] at h
      cases h
      exact absurd (show Data.seq us.toArray _ = Data.dict es ep from d) nofun
  have nss : ∀ {b : Addr} {m : Str → Option Value}, st.heap.Ns b m → (hidT st.heap G).Ns b m := fun {b m} ⟨o, es, ep, h, d, r⟩ => ⟨o, es, ep, hidT_get h (other h d), d, r⟩
  have kin : K.In (hidT st.heap G) := fun b o h => hidT_get (inK b o h) (by
    cases c : G b with
    | none => rfl
    | some u =>
      obtain ⟨rfl, no, _⟩ := frozen_some c
      rw [no] at h
      cases h)
  have md : Mod K mg (hidT st.heap G) := ⟨kin, nss nm, ⟨mb, nss nb, bo⟩, nl.elim fun mc h => ⟨mc, nss h.1, h.2⟩⟩
  have env : Env0 P w K mg (hidT st.heap G) callerA [] st G :=
    ⟨rfl, md, fun b o h => of_hidT h, Nat.le_of_eq (hidT_size _ _), trivial, fun b h => (List.not_mem_nil h).elim, held, .of_eq ng⟩
  refine codeAny_mono ((F _ kin (nss nm)).run callerA [] st G ⟨[.ref a], []⟩ [.ref a] [.ref a] _ _ hr rfl env (bind st _) (.cons rfl .nil) (want G seq)) fun r s' fin => ?_
  cases r with
  | error er => exact fin.elim
  | ok fl =>
    cases fl with
    | next => exact fin.elim
    | brk => exact fin.elim
    | cont => exact fin.elim
    | ret u =>
      obtain ⟨v, G2, os, bare, un, held2, rv, yes⟩ := fin
      obtain rfl : v = V.bl true := yes
      obtain rfl : u = Value.bool true := rv
      refine ⟨rfl, OldK.of_keep fun b o h => ?_, os, bare⟩
      cases c : G b with
      | none => exact un.keep b o h c (fun z => List.not_mem_nil z) List.not_mem_nil
      | some q =>
        obtain ⟨rfl, _, rfl⟩ := frozen_some c
        have now := (held2 b _ (un.frzs b ob _ c)).1
        rw [scr] at h
        cases h
        exact now
theorem walk_end {l : PySem.W.OpenLaw} {n m : Nat} {q : Program} {loose : List Str} {XP : (Str → Option Value) → Heap → Prop} {YP : World → Heap → Prop} {d : DefRec} {K : Params → PySem.W.Frag} {sp : PySem.W.Frag → Sp} {x : Str}
    (hm : l.most = some m) (hm2 : m ≤ sizeLine) (hdf : d.params.defaults = []) (hr : Room n callerA)
    (hY : ∀ (w : World) (h : Heap), YP w h → (K w.params).In h)
    (F : ∀ (w : World) (mg : Str → Option Value) (fa : Addr) (h : Heap), (K w.params).In h → h.Ns mainGlobals mg → mg d.name = some (.ref fa) →
      ∃ fd : FuncData, (∀ (s : Shared) (u : Value), BindsTo s fd ⟨[u], []⟩ [(x, u)]) ∧
        ∀ base : Heap, (K w.params).In base → base.Ns mainGlobals mg → FnG l.prog w (K w.params) mg base CX0 n fa fd [x] (sp (K w.params)))
    (want : ∀ (K : PySem.W.Frag) (G : Hp) (a : Addr) (is : List Int), is.length ≤ m → SqL K G a (is.map V.int) → sp K [.ref a] G (fun v _ => v = .bl true) fun _ _ _ => False) :
    PySem.W.WalkO q loose XP YP l.row.toRowW d [] (fun f vs => PySem.call f vs) := by
  refine Att.attach_call hm hdf fun w s0 st mg mb fa o pm cd doc a us is gr y _ _ _ hmg scr ints0 few ng => ?_
  have inK := hY w _ y
  obtain ⟨fd, bind, ok⟩ := F w mg fa _ inK gr.T.g hmg
  exact law_end inK gr.T.g gr.T.b gr.T.builtins gr.T.nolimit ng scr ints0 (Nat.le_trans few hm2) hr ok bind fun G h => want _ G a is few h
end Fs

namespace Fs
open PySem PySem.Spec PyProof.Rows L2
/-! ### enumerate of a tuple -/
def IteT (K : PySem.W.Frag) (t : Addr) : It where
  go := fun i G => ∃ xs y, SqT K G t xs ∧ xs[i]? = some y
  yld := fun i G v G' => ∃ r y, v = .ref r ∧ G r = none ∧ G' = upd G r (.tup [.int (i : Nat), y]) ∧ ∀ xs, SqT K G t xs → xs[i]? = some y
  stop := fun i G => ∃ xs, SqT K G t xs ∧ xs.length ≤ i
theorem turn_enumT {P : Program} {w : World} {K : PySem.W.Frag} {es : List Expr} {n : Nat} {tp : Pos} (t e j : Addr) :
    Turn P w K (.Tuple es n tp) (IteT K t) [e, j] e (fun i h => (∃ old, IsEnum h e j (i : Nat) old) ∧ h.IsTupleIter j t i ∧ e ≠ j) where
  mem := List.mem_cons_self
  obj := fun i h tn b hb => by
    obtain ⟨⟨old, he⟩, ⟨o, ho, hc, hd⟩, _⟩ := tn
    rcases List.mem_cons.mp hb with rfl | hb
    · exact ⟨_, he, nofun⟩
    · obtain rfl := List.mem_singleton.mp hb
      exact ⟨o, ho, fun v q => by rw [hd] at q; cases q⟩
  keep := fun i h h' tn k => ⟨tn.1.imp fun old he => k e (by simp) _ he, tn.2.1.at fun o q => k j (by simp) o q, tn.2.2⟩
  item := by
    intro X eP ew eK calm i pn st sg G E J fp tn go
    subst eP ew eK
    obtain ⟨⟨old, he⟩, hj, ne⟩ := tn
    obtain ⟨xs, y, seq, hy⟩ := go
    obtain ⟨its, rel, tup, _⟩ := J.tuple seq
    obtain ⟨u, hu, ru⟩ := rel.get hy
    have lt_e : e < st.heap.objs.size := Heap.lt_size he
    have lt_j : j < st.heap.objs.size := let ⟨_, q, _⟩ := hj; Heap.lt_size q
    obtain ⟨ot, hot, hct, nt, hdt⟩ := id tup
    obtain ⟨oj, hoj, hcj, hdj⟩ := id hj
    have et : e ≠ t := fun z => by
      have he' : st.heap.get? t = some _ := z ▸ he
      rw [hot] at he'
      cases he'
      exact absurd (show Value.type "enumerate" = Value.type "tuple" from hct) (by decide)
    have jt : t ≠ j := fun z => by
      rw [z, hoj] at hot
      cases hot
      rw [hcj] at hct
      exact absurd hct (by decide)
    have D := Draws.tuple (prog := X.prog) (w := X.w) (A := X.A.in1) (J.ok.hd calm) j t jt its.toArray
    have small : i < its.toArray.size := by
      have q := (List.getElem?_eq_some_iff.mp hu).1
      simpa using q
    refine wpAny_pyNext_enum_itemD D he ⟨hj, tup⟩ small ne (by simp [ne, et]) fun z h1 tk hz out more hT sz kp => ?_
    have zu : z = u := by
      have q : its.toArray[i]? = some z := hz
      have q2 : its.toArray[i]? = some u := by simpa using hu
      rw [q] at q2
      exact Option.some.inj q2
    subst zu
    refine ⟨_, rfl, wpAny_letOwnedTupleGo_enum (s := { st with heap := h1, toks := tk + 1 }) out fun h2 he2 sb => ?_⟩
    have at2 : h2.get? st.heap.objs.size = some { cls := .type "tuple", data := .seq #[.int i tk, z] } := (sb.2 _ (Nat.ne_of_gt lt_e)).trans hT
    have new : ObjOk X.prog X.w (upd G st.heap.objs.size (.tup [.int (i : Nat), y])) h2 st.heap.objs.size (.tup [.int (i : Nat), y]) :=
      ⟨show 2 ≤ sizeLine by decide, [.int i tk, z], .cons ⟨_, rfl⟩ (.cons ru .nil), ⟨_, at2, rfl, _, rfl⟩⟩
    have J2 : Inv X pn sg (upd G st.heap.objs.size (.tup [.int (i : Nat), y])) { st with heap := h2, toks := tk + 1 } :=
      J.turnedNew (ch := [e, j]) (fun b ob hb q => by
        have b1 : b ≠ e := fun c => hb (by simp [c])
        have b2 : b ≠ j := fun c => hb (by simp [c])
        exact (sb.2 b b1).trans (kp b ob b1 b2 q)) fp (Nat.le_refl _) new
    refine ⟨.ref st.heap.objs.size, _, J2, rfl, ⟨_, y, rfl, J.hok.fresh (Nat.le_refl _), rfl, fun ys hs => by rw [J.tuple_inj hs seq]; exact hy⟩, ⟨⟨z, ?_⟩, more.1.at fun o q => (sb.2 j (Ne.symm ne)).trans q, ne⟩, fun b hb => ?_⟩
    · have up : ((i + 1 : Nat) : Int) = (i : Int) + 1 := by omega
      rw [up]
      exact he2
    · have lt_b : b < st.heap.objs.size := by
        rcases List.mem_cons.mp hb with rfl | hb
        · exact lt_e
        · rw [List.mem_singleton.mp hb]
          exact lt_j
      rw [upd_ne (Nat.ne_of_lt lt_b)]
      exact (fp b hb).1
  done := by
    intro X eP ew eK calm i pn st sg G E J fp tn stop
    subst eP ew eK
    obtain ⟨⟨old, he⟩, hj, ne⟩ := tn
    obtain ⟨xs, seq, le⟩ := stop
    obtain ⟨its, rel, tup, _⟩ := J.tuple seq
    obtain ⟨ot, hot, hct, nt, hdt⟩ := id tup
    obtain ⟨oj, hoj, hcj, hdj⟩ := id hj
    have jt : t ≠ j := fun z => by
      rw [z, hoj] at hot
      cases hot
      rw [hcj] at hct
      exact absurd hct (by decide)
    obtain ⟨f0, f1, f2, f3, f4, f5⟩ := fp j (by simp)
    have len := rel.length
    have fin : its.toArray[i]? = none := by
      rw [List.getElem?_toArray]
      exact List.getElem?_eq_none_iff.mpr (by omega)
    unfold pyNext
    refine wpAny_bind (wpAny_attempt (wpAny_callSpecial?_slot (name := Str.ofString "__next__") ⟨_, he, rfl⟩ F.slot_enumerate_next
      (wpAny_call_entry F.slot_enumerate_next ⟨_, he, rfl⟩ F.entry_enumerate_next ?_ (F.args_enumerate_next_1 _))))
    show wpAny _ _ (field (.ref e) 2 >>= _) _ _ _
    refine wpAny_bind (wpAny_field he rfl (x := .ref j) rfl ?_)
    refine wpAny_bind (wpAny_nextOf_tuple_end (J.ok.hd calm) hj tup fin fun h1 x eb hx => ?_)
    obtain ⟨o, ho, hc⟩ := hx
    refine wpAny_bind (wpAny_isInstance (T := "StopIteration") (b := true) ⟨o, ho, hc⟩ isSubtype_stop ?_)
    exact wpAny_pure ⟨rfl, J.turned (t' := st.toks) (fun b ob hb q => eb b ob hb q) f0 f1 f3 f4 f5⟩
  self := fun A i st Q E tn h => tn.1.elim fun _ he => wpAny_pyIter_enum he h
def tupIter (t : Addr) : Obj := { cls := .type "tuple_iterator", data := .fields #[.ref t, .int 0 0] }
def enumOf (j : Addr) : Obj := { cls := .type "enumerate", data := .fields #[.none, .bool false, .ref j, rawInt 0, .none, .none] }
theorem meets_enum_tuple (t : Addr) (its : Array Value) :
    Meets (Builtin.«enumerate.__new__» ⟨[.type "enumerate", .ref t], []⟩) (fun _ R st => st.heap.IsTuple t its ∧
      R (.ok (.ret (.ref (st.heap.push (tupIter t)).objs.size))) { st with heap := (st.heap.push (tupIter t)).push (enumOf st.heap.objs.size) }) :=
  .of_wp fun prog w A R st ⟨ht, h⟩ => by
    obtain ⟨hp, g, d, tk, os⟩ := st
    have sub := sub_enumerate
    have go : ∀ {A' : Around} {E : Value → Shared → Prop} {Q : Value → Shared → Prop},
        Q (.ref hp.objs.size) ⟨hp.push (tupIter t), g, d, tk, os⟩ →
          wpAny (model prog w) A' (pyIter (.ref t)) Q E ⟨hp, g, d, tk, os⟩ := fun q => wpAny_pyIter_tuple ht q
    wp_walk using go
    refine wpAny_stack_any fun fr => wpAny_pure ?_
    split
    · rename_i c _ _ _ _ _
      cases (c == Value.type "enumerate") <;> (wp_walk using go; exact ⟨_, rfl, h⟩)
    · wp_walk using go
      exact ⟨_, rfl, h⟩
section
variable {X : Cx}
def iEnumT (K : PySem.W.Frag) (ta : TA) : TI := fun sg G R => ta sg G fun vs G1 => ∃ a xs, vs = [.ref a] ∧ SqT K G1 a xs ∧ R (IteT K a) G1
theorem pi_enumT {e : Expr} {ta : TA} {p pos tp : Pos} {es : List Expr} {n : Nat} (hg : Gl X "enumerate") (hm : X.mg "enumerate" = none) (ha : PA X [e] ta)
    (hs : starEach [e] X.env = [(false, eval e X.env)] := by rfl) :
    PI X (.Tuple es n tp) (.Call (.Name "enumerate" p) [e] [] pos) (iEnumT X.K ta) := by
  refine ⟨fun pn st sg G R J h => Call_ (ld_blt J hg hm boot_enumerate (PyProof.Rows.callWith_type1 (thn (ha.run pos pn st sg G _ J h) ?_) hs rfl))⟩
  rintro us st1 ⟨vs, G1, J1, rel, a, xs, rfl, seq, more⟩
  obtain ⟨u, rfl⟩ : ∃ u, us = [u] := by
    cases rel with
    | cons r rr =>
      cases rr
      exact ⟨_, rfl⟩
  obtain rfl : u = Value.ref a := by
    cases rel with
    | cons r rr => exact r
  obtain ⟨its, rv, tup, _⟩ := J1.tuple seq
  refine callType_new F.called_enumerate (by decide) (F.typeCall_enumerate_1 _) (F.newCall_enumerate_1 _) (fun obj => F.args_object_init_2 obj _) F.entry_enumerate_new
    (meets_enum_tuple a its.toArray) ⟨tup, ?_⟩
  let it : Obj := tupIter a
  have sz : (st1.heap.push it).objs.size = st1.heap.objs.size + 1 := Heap.size_push ..
  let en : Obj := enumOf st1.heap.objs.size
  show _ ∧ wpAny _ _ (pyIter (.ref (st1.heap.push it).objs.size)) _ _ { st1 with heap := (st1.heap.push it).push en }
  rw [sz]
  have he : IsEnum ((st1.heap.push it).push en) (st1.heap.objs.size + 1) st1.heap.objs.size 0 .none := by
    have q := Heap.get?_push_size (st1.heap.push it) (o := en) rfl
    rw [sz] at q
    exact q
  refine ⟨⟨_, he, rfl⟩, wpAny_pyIter_enum he ?_⟩
  have J2 : Inv X pn sg G1 { st1 with heap := (st1.heap.push it).push en } := J1.kept (t' := st1.toks) fun b o q => Heap.get?_push_of_some _ (Heap.get?_push_of_some _ q)
  refine ⟨st1.heap.objs.size + 1, [st1.heap.objs.size + 1, st1.heap.objs.size], _, _, G1, rfl, J2, turn_enumT a (st1.heap.objs.size + 1) st1.heap.objs.size,
    ⟨⟨.none, he⟩, ⟨_, Heap.get?_push_of_some _ (Heap.get?_push_size _ rfl), rfl, rfl⟩, Nat.succ_ne_self _⟩, fun b hb => ?_, more⟩
  have le : st1.heap.objs.size ≤ b := by
    rcases List.mem_cons.mp hb with rfl | hb
    · exact Nat.le_succ _
    · rw [List.mem_singleton.mp hb]
      exact Nat.le_refl _
  exact J1.fpOk le (J1.hok.fresh le)
end
theorem walk_enumT {K : PySem.W.Frag} {t : Addr} {xs : List V} :
    Walk (IteT K t) xs.length (fun G => SqT K G t xs) (YPair (fun i => some (.int (i : Nat))) (fun i => xs[i]?)) :=
  ⟨fun i _ lt q => ⟨xs, xs[i], q, by simp [lt]⟩, fun _ q => ⟨xs, q, Nat.le_refl _⟩,
    fun i G x G' lt q ⟨r, y, e1, e2, e3, e4⟩ => ⟨r, _, y, e1, e2, e3, rfl, e4 xs q⟩⟩
end Fs

namespace Fs
open PySem PySem.Spec PyProof.Rows L2
/-! ### the text by places -/
def top (i : Nat) : Stmt := PySem.Challenge.pw_forcedsteer_k04_ties_refused.main.body.getD i (.Pass ⟨0, 0, 0, 0⟩)
abbrev sJug : Stmt := (top 29)
abbrev sSip : Stmt := (top 30)
/-! ### heaps that grow but for what stands at one address -/
def Grow (j : Addr) (G G' : Hp) : Prop := ∀ b o, b ≠ j → G b = some o → G' b = some o
theorem Grow.refl (j : Addr) (G : Hp) : Grow j G G := fun _ _ _ q => q
theorem Grow.trans {j : Addr} {G G1 G2 : Hp} (a : Grow j G G1) (b : Grow j G1 G2) : Grow j G G2 := fun c o n q => b c o n (a c o n q)
theorem Grow.new {j p : Addr} {G G' : Hp} {o : HO} (g : Grow j G G') (n : G' p = none) : Grow j G (upd G' p o) := fun b u ne q => by
  rw [upd_ne (ne_of_none (g b u ne q) n)]
  exact g b u ne q
theorem Grow.at_ {j : Addr} {G G' : Hp} {o : HO} (g : Grow j G G') : Grow j G (upd G' j o) := fun b u ne q => by
  rw [upd_ne ne]
  exact g b u ne q
theorem Grow.of {j : Addr} {G G' : Hp} (s : Same G G') : Grow j G G' := fun b o _ q => s b o q
/-- what was free, an object made since the first heap, may change too -/
theorem Grow.put {j l : Addr} {G G' : Hp} {o : HO} (g : Grow j G G') (n : G l = none) : Grow j G (upd G' l o) := fun b u ne q => by
  rw [upd_ne (ne_of_none q n)]
  exact g b u ne q
theorem Grow.free {j p : Addr} {G G' : Hp} (g : Grow j G G') (np : p ≠ j) (n : G' p = none) : G p = none := by
  cases c : G p with
  | none => rfl
  | some o =>
    rw [g p o np c] at n
    cases n
theorem Grow.seqL {K : PySem.W.Frag} {j a : Addr} {G G' : Hp} {xs : List V} (g : Grow j G G') (ne : a ≠ j) (h : SqL K G a xs) : SqL K G' a xs := by
  rcases h with (h | ⟨o, h⟩) | h
  · exact .inl (.inl (g _ _ ne h))
  · exact .inl (.inr ⟨o, g _ _ ne h⟩)
  · exact .inr h
theorem Grow.seqT {K : PySem.W.Frag} {j a : Addr} {G G' : Hp} {xs : List V} (g : Grow j G G') (ne : a ≠ j) (h : SqT K G a xs) : SqT K G' a xs := by
  rcases h with (h | ⟨o, h⟩) | h
  · exact .inl (.inl (g _ _ ne h))
  · exact .inl (.inr ⟨o, g _ _ ne h⟩)
  · exact .inr h
/-! ### the jug -/
def Jug (G : Hp) (j : Addr) : Prop := ∃ a b c : Int, G j = some (.lst [.int a, .int b, .int c]) ∧ 0 ≤ b ∧ b < 2147483249
theorem Jug.some_ {G : Hp} {j : Addr} (h : Jug G j) : G j ≠ none := by
  obtain ⟨a, b, c, e, _⟩ := h
  rw [e]
  nofun
theorem Jug.ne {G : Hp} {j p : Addr} (h : Jug G j) (n : G p = none) : p ≠ j := fun e => h.some_ (e ▸ n)
theorem Jug.ne_tup {G : Hp} {j p : Addr} {xs : List V} (h : Jug G j) (n : G p = some (.tup xs)) : p ≠ j := fun e => by
  obtain ⟨a, b, c, q, _⟩ := h
  rw [e, q] at n
  cases n
theorem Jug.new {G : Hp} {j p : Addr} {o : HO} (h : Jug G j) (n : G p = none) : Jug (upd G p o) j := by
  obtain ⟨a, b, c, q, r⟩ := h
  exact ⟨a, b, c, by rw [upd_ne (ne_of_none q n)]; exact q, r⟩
structure TB (mg : Str → Option Value) : Prop where
  len : mg "len" = none
  int : mg "int" = none
  abs : mg "abs" = none
  dvm : mg "divmod" = none
  rng : mg "range" = none
  tup : mg "tuple" = none
/-- a draw: some number below the most -/
def spSip : Sp := fun vs G Z _ => ∃ (j : Addr) (m : Int), vs = [.ref j, .int m] ∧ Jug G j ∧ 0 < m ∧ m < 1000 ∧
  ∀ (G' : Hp) (r : Int), 0 ≤ r → r < m → Jug G' j → Grow j G G' → Z (.int r) G'
theorem div_ok {i j : Int} (h0 : 0 < j) (h1 : j < 1000) : CDivP i j := ⟨h0, PyProof.noPylong_small (by omega)⟩
section
variable {P : Program} {w : World} {K : PySem.W.Frag} {mg : Str → Option Value} {base : Heap}
theorem scSip : FnScope ["_law_jug_here", "_law_most", "_law_digit"] ["_law_jug_here", "_law_most"] (defScope sSip) := ⟨rfl, rfl, rfl, by decide +kernel, rfl, by decide +kernel, by decide +kernel⟩
theorem ok_sip {f : Addr} {fd : FuncData} (F : Fun K "_law_sip" "_law_sip" sSip f fd) (T : TB mg) : FnOk P w K mg base CX0 1 f fd ["_law_jug_here", "_law_most"] spSip := by
  refine F.ok scSip (fun vs G Z E h => ?_) (fun cdv A out st G vs Z E hr h => ?_)
  · obtain ⟨j, m, rfl, _⟩ := h
    rfl
  · obtain ⟨j, m, rfl, ⟨a, b, c, hj, b0, b1⟩, m0, m1, k⟩ := h
    refine ⟨_, pss_cons (ps_if (pt_cmpR op_gt (pe_ix ix_list (pv 0) pe_int (fun _ _ => rfl)) pe_int (nomark _))
        (pss_cons (ps_asg (pe_callB call_divmodW (by rfl) T.dvm boot_divmod (pa_cons (pe_ix ix_list (pv 0) pe_int (fun _ _ => rfl)) (pa_cons (pv 1) pa_nil)))
            (pg_tup rfl (pgs_cons (pg_sub (pv 0) pe_int set_list) (pgs_cons (pg_name (i := 2) scSip.nd rfl (Or.inl rfl)) pgs_nil))))
          (pss_one (ps_ret (pv 2)))) pss_nil)
      (pss_cons (ps_asg (pe_op op_add (pe_ix ix_list (pv 0) pe_int (fun _ _ => rfl)) pe_int) (pg_sub (pv 0) pe_int set_list))
      (pss_cons (ps_asg (pe_op op_mod (pe_callTy call_int1 (by rfl) T.int boot_int (pa_cons (pe_op op_add (pe_op op_mul (pe_ix ix_list (pv 0) pe_int (fun _ _ => rfl)) pe_int)
            (pe_op op_mul pe_int (pe_ix ix_list (pv 0) pe_int (fun _ _ => rfl)))) pa_nil)) pe_int) (pg_sub (pv 0) pe_int set_list))
      (pss_one (ps_ret (pe_op op_mod (pe_callTy call_int1 (by rfl) T.int boot_int (pa_cons (pe_op op_fdiv (pe_ix ix_list (pv 0) pe_int (fun _ _ => rfl)) pe_int) pa_nil)) (pv 1)))))), ?_⟩
    refine ⟨_, rfl, j, _, _, _, rfl, rfl, SqL.of hj, rfl, _, _, rfl, rfl, _, rfl, ?_⟩
    refine ite2 (fun _ => ?_) (fun _ => ?_)
    · refine ⟨_, rfl, j, _, _, _, rfl, rfl, SqL.of hj, rfl, _, rfl, _, _, rfl, div_ok m0 m1, fun p hp => ?_⟩
      have np : j ≠ p := ne_of_none hj hp
      refine ⟨p, _, rfl, SqT.of upd_same, rfl, _, _, rfl, _, rfl, j, _, _, _, rfl, rfl, by rw [upd_ne np]; exact hj, rfl, _, _, rfl, ?_⟩
      refine ⟨rfl, _, rfl, k _ _ (Int.emod_nonneg _ (by omega)) (Int.emod_lt_of_pos _ m0) ⟨_, _, _, upd_same, b0, b1⟩ ?_⟩
      exact ((Grow.refl j G).new hp).at_
    · refine ⟨_, rfl, j, _, _, _, rfl, rfl, SqL.of hj, rfl, _, _, rfl, rfl, _, rfl, j, _, _, _, rfl, rfl, hj, rfl, ?_⟩
      refine ⟨_, rfl, j, _, _, _, rfl, rfl, SqL.of upd_same, rfl, _, _, rfl, rfl, .inr ⟨by decide, by decide⟩, _, rfl, j, _, _, _, rfl, rfl, SqL.of upd_same, rfl, _, _, rfl, rfl, .inl ⟨by decide, by decide⟩, _, _, rfl, rfl, .inl ⟨_, rfl, _, _, rfl, rfl, (by show (0 : Int) < 2147483249; decide), ?_⟩⟩
      refine ⟨_, rfl, j, _, _, _, rfl, rfl, upd_same, rfl, ?_⟩
      refine ⟨_, rfl, j, _, _, _, rfl, rfl, SqL.of upd_same, rfl, _, _, rfl, rfl, ⟨by decide, by decide⟩, .inl ⟨_, rfl, _, rfl, _, _, rfl, rfl, m0, ?_⟩⟩
      refine k _ _ (Int.emod_nonneg _ (by omega)) (Int.emod_lt_of_pos _ m0) ⟨_, _, _, upd_same, Int.emod_nonneg _ (by omega), Int.emod_lt_of_pos _ (by omega)⟩ ?_
      exact ((Grow.refl j G).at_).at_
end
end Fs

namespace Fs
open PySem PySem.Spec PyProof.Rows L2
theorem via {te : TE} {sg : L2.St} {G : Hp} {Z : VK} (Pr : V → Hp → Prop) (h1 : ∀ Z' : VK, (∀ v G', Pr v G' → Z' v G') → te sg G Z') (h2 : ∀ v G', Pr v G' → Z v G') : te sg G Z := h1 Z h2
theorem via0 {te : TE} {sg : L2.St} {G : Hp} {Z : VK} {α : Type} (f : α → V) (h1 : ∀ Z' : VK, (∀ i, Z' (f i) G) → te sg G Z') (h2 : ∀ i, Z (f i) G) : te sg G Z := h1 Z h2
def spJug (K : PySem.W.Frag) : Sp := fun vs G Z _ => ∃ (a : Addr) (k : Int) (ns : List Int), vs = [.ref a, .int k] ∧ SqL K G a (ns.map V.int) ∧ 0 ≤ k ∧
  ∀ (G' : Hp) (j : Addr), G j = none → Jug G' j → Same G G' → Z (.ref j) G'
theorem _root_.L2.Same.new {G G' : Hp} {p : Addr} {o : HO} (g : Same G G') (n : G' p = none) : Same G (upd G' p o) := fun b u q => by
  rw [upd_ne (ne_of_none (g b u q) n)]
  exact g b u q
theorem mem_cut {xs : List V} {lo hi : Option Int} {v : V} (h : v ∈ cutV xs lo hi) : v ∈ xs := List.mem_of_mem_drop (List.mem_of_mem_take h)
theorem atI_in {ns : List Int} {k : Int} (h0 : 0 ≤ k) (h1 : k < (ns.map V.int).length) : ∃ z, atI (ns.map V.int) k = some (V.int z) := by
  obtain ⟨n, rfl⟩ : ∃ n : Nat, k = n := ⟨k.toNat, by omega⟩
  have lt : n < ns.length := by
    rw [List.length_map] at h1
    omega
  exact ⟨ns[n], atI_nat (by simp [lt])⟩
section
variable {P : Program} {w : World} {K : PySem.W.Frag} {mg : Str → Option Value} {base : Heap}
theorem scJug : FnScope ["_law_script", "_law_at", "_law_figure", "_law_seed", "_law_each"] ["_law_script", "_law_at"] (defScope sJug) := ⟨rfl, rfl, rfl, by decide +kernel, rfl, by decide +kernel, by decide +kernel⟩
theorem ok_jug {f : Addr} {fd : FuncData} (F : Fun K "_law_jug" "_law_jug" sJug f fd) (T : TB mg) : FnOk P w K mg base CX0 1 f fd ["_law_script", "_law_at"] (spJug K) := by
  refine F.ok scJug (fun vs G Z E h => ?_) (fun cdv A out st G vs Z E hr h => ?_)
  · obtain ⟨a, k, ns, rfl, _⟩ := h
    rfl
  · obtain ⟨a, k, ns, rfl, hS, k0, fin⟩ := h
    refine ⟨_, pss_cons (ps_set (i := 2) scJug.nd rfl (Or.inl rfl) (pe_ifExp (pt_cmpR op_lt (pv 1) (pe_callB call_len_seq (by rfl) T.len PySem.boot_len (pa_cons (pv 0) pa_nil)) (nomark _))
          (pe_ix ix_list (pv 0) (pv 1) (fun _ _ => rfl)) (pe_op op_add (pe_op op_mul pe_int (pv 1)) pe_int)))
      (pss_cons (ps_set (i := 3) scJug.nd rfl (Or.inl rfl) (pe_op op_add pe_int (pe_op op_mul pe_int (pv 1))))
      (pss_cons (ps_for PassesOwn.never rfl (pi_list (pe_op op_cat (pe_lst (pa_cons (pv 2) pa_nil)) (pe_slice sl_list (pv 0) po_none (po_some pe_int))))
          (pg_name (i := 4) scJug.nd rfl (Or.inl rfl))
          (pss_one (ps_set (i := 3) scJug.nd rfl (Or.inl rfl) (pe_op op_mod (pe_callTy call_int1 (by rfl) T.int boot_int (pa_cons (pe_op op_add (pe_op op_mul (pv 3) pe_int) (pv 4)) pa_nil)) pe_int))))
      (pss_one (ps_ret (pe_lst (pa_cons (pe_ifExp (pt_cmpR op_ge (pe_callB call_abs (by rfl) T.abs boot_abs (pa_cons (pv 2) pa_nil)) (pe_op op_pow pe_int pe_int) (nomark _))
          (pe_callB call_abs (by rfl) T.abs boot_abs (pa_cons (pv 2) pa_nil)) pe_int) (pa_cons (pv 3) (pa_cons pe_int pa_nil)))))))), ?_⟩
    show tIf _ _ _ _ _ _
    refine via0 V.int (fun Z' q => ?_) (fun z => ?_)
    · refine ⟨_, rfl, _, rfl, a, _, rfl, .inl hS, _, _, rfl, rfl, _, rfl, ?_⟩
      refine ite2 (fun c => ?_) (fun c => ?_)
      · obtain ⟨z, hz⟩ := atI_in k0 (of_decide_eq_true c)
        exact ⟨_, rfl, _, rfl, a, _, _, _, rfl, rfl, hS, hz, q _⟩
      · exact ⟨_, rfl, _, _, rfl, rfl, .inl ⟨by decide, by decide⟩, _, _, rfl, rfl, q _⟩
    · refine ⟨_, rfl, _, _, rfl, rfl, .inl ⟨by decide, by decide⟩, _, _, rfl, rfl, ?_⟩
      refine ⟨_, rfl, by show 1 ≤ sizeLine; decide, fun p hp => ?_⟩
      refine ⟨_, rfl, _, rfl, a, _, rfl, ((Same.refl G).new hp).seq hS, fun q hq => ?_⟩
      have npq : p ≠ q := fun e => by
        rw [e] at hp
        rw [← e, upd_same] at hq
        cases hq
      have lenCut : (cutV (ns.map V.int) Option.none (some 6)).length ≤ 6 := by
        unfold cutV
        rw [List.length_take]
        refine Nat.le_trans (Nat.min_le_left _ _) (Nat.le_trans (Nat.sub_le _ _) ?_)
        show HT.sIx _ _ (some 6) ≤ 6
        unfold HT.sIx
        simp
        omega
      refine ⟨p, q, _, _, rfl, rfl, by rw [upd_ne npq]; exact upd_same, upd_same, ?_, fun r hr2 => ?_⟩
      · refine Nat.le_trans (Nat.add_le_add_left lenCut _) ?_
        show 1 + 6 ≤ sizeLine
        decide
      · have g3 : Same G (upd (upd (upd G p (.lst [.int z])) q (.lst (cutV (ns.map V.int) Option.none (some 6)))) r (.lst ([V.int z] ++ cutV (ns.map V.int) Option.none (some 6)))) := (((Same.refl G).new hp).new hq).new hr2
        refine ⟨r, rfl, ⟨_, SqL.of upd_same⟩, for_list (K := K) (a := r) (xs := [V.int z] ++ cutV (ns.map V.int) Option.none (some 6)) (fun i σ G' => ∃ (b : Int) (v : Option V), σ = [some (.ref a), some (.int k), some (.int z), some (.int b), v] ∧ (0 < i → 0 ≤ b ∧ b < 2147483249) ∧
            G' = (upd (upd (upd G p (.lst [.int z])) q (.lst (cutV (ns.map V.int) Option.none (some 6)))) r (.lst ([V.int z] ++ cutV (ns.map V.int) Option.none (some 6))))) ⟨_, _, rfl, fun h => absurd h (Nat.lt_irrefl _), rfl⟩ (fun i σ G' _ ⟨_, _, _, _, e⟩ => by rw [e]; exact SqL.of upd_same) ?_ ?_⟩
        · rintro i y σ _ hi ⟨b, v, rfl, hb, rfl⟩
          obtain ⟨u, rfl⟩ : ∃ u, y = V.int u := by
            have m := List.mem_of_getElem? hi
            rcases List.mem_append.mp m with h | h
            · exact ⟨z, List.mem_singleton.mp h⟩
            · obtain ⟨u, _, e⟩ := List.mem_map.mp (mem_cut h)
              exact ⟨u, e.symm⟩
          refine ⟨_, rfl, _, _, rfl, rfl, .inr ⟨by decide, by decide⟩, _, rfl, _, _, rfl, rfl, .inl ⟨_, rfl, _, _, rfl, rfl, (by show (0 : Int) < 2147483249; decide), ?_⟩⟩
          exact ⟨_, _, rfl, fun _ => ⟨Int.emod_nonneg _ (by decide), Int.emod_lt_of_pos _ (by decide)⟩, rfl⟩
        · rintro σ _ ⟨b, v, rfl, hb, rfl⟩
          have bb := hb (by simp)
          dsimp only [tRet, tLst, tCons]
          refine via0 V.int (fun Z' q => ?_) (fun z2 => ?_)
          · refine ⟨_, rfl, _, rfl, _, _, rfl, rfl, ⟨by decide, by decide, by decide⟩, _, _, rfl, rfl, _, rfl, ?_⟩
            refine ite2 (fun c => ?_) (fun c => ?_)
            · exact ⟨_, rfl, _, rfl, q _⟩
            · exact q _
          · refine ⟨_, rfl, by show 3 ≤ sizeLine; decide, fun t ht => ?_⟩
            exact fin _ t (g3.free ht) ⟨_, _, _, upd_same, bb⟩ (g3.new ht)
end
end Fs

namespace Fs
open PySem PySem.Spec PyProof.Rows L2
abbrev sHeads : Stmt := (top 31)
/-- a def of the module's own, called by its name -/
structure DefAt (K : PySem.W.Frag) (mg : Str → Option Value) (x : Str) (ps : List Str) (d : Stmt) (f : Addr) (fd : FuncData) : Prop where
  fn : Fun K x x d f fd
  gl : mg x = some (.ref f)
  kp : PySem.W.keepIn K (.ref f) = true
  bd : Binds K fd ps []
def pool0 : List Str := ["a", "b", "cog", "d2", "e", "z9999999", "arm", "x"]
def Heads (xs : List Str) : Prop := xs ≠ [] ∧ xs.Nodup ∧ ∀ x ∈ xs, x ∈ pool0
def spHeads : Sp := fun vs G Z _ => ∃ (j : Addr) (m : Int), vs = [.ref j, .int m] ∧ Jug G j ∧ 0 < m ∧ m ≤ 8 ∧
  ∀ (G' : Hp) (p : Addr) (xs : List Str), Heads xs → (xs.length : Int) ≤ m → G p = none → G' p = some (.tup (xs.map V.str)) → Jug G' j → Grow j G G' → Z (.ref p) G'
theorem pool_nodup : pool0.Nodup := by decide +kernel
theorem erase_map {α β : Type} (f : α → β) : ∀ (l : List α) (k : Nat), (l.map f).eraseIdx k = (l.eraseIdx k).map f
  | [], _ => rfl
  | _ :: _, 0 => rfl
  | a :: r, k + 1 => congrArg (f a :: ·) (erase_map f r k)
theorem erase_perm {α : Type} : ∀ (l : List α) (k : Nat) (h : k < l.length), (l[k] :: l.eraseIdx k).Perm l
  | [], _, h => absurd h (Nat.not_lt_zero _)
  | _ :: _, 0, _ => .refl _
  | a :: r, k + 1, h => (List.Perm.swap a (r[k]'(Nat.lt_of_succ_lt_succ h)) (r.eraseIdx k)).trans (.cons a (erase_perm r k (Nat.lt_of_succ_lt_succ h)))
theorem perm_pop {got rem : List Str} {k : Nat} (h : k < rem.length) : ((got ++ [rem[k]]) ++ rem.eraseIdx k).Perm (got ++ rem) := by
  rw [List.append_assoc]
  exact List.Perm.append_left got (erase_perm rem k h)
section
variable {P : Program} {w : World} {K : PySem.W.Frag} {mg : Str → Option Value} {base : Heap}
theorem scHeads : FnScope ["_law_jug_here", "_law_most_here", "_law_pool", "_law_found", "_law_k"] ["_law_jug_here", "_law_most_here"] (defScope sHeads) := ⟨rfl, rfl, rfl, by decide +kernel, rfl, by decide +kernel, by decide +kernel⟩
theorem ok_heads {f fS : Addr} {fd fdS : FuncData} (F : Fun K "_law_heads" "_law_heads" sHeads f fd) (T : TB mg) (DS : DefAt K mg "_law_sip" ["_law_jug_here", "_law_most"] sSip fS fdS) :
    FnOk P w K mg base CX0 2 f fd ["_law_jug_here", "_law_most_here"] spHeads := by
  have GS : FnOk P w K mg base CX0 1 fS fdS ["_law_jug_here", "_law_most"] spSip := ok_sip DS.fn T
  refine F.ok scHeads (fun vs G Z E h => ?_) (fun cdv A out st G vs Z E hr h => ?_)
  · obtain ⟨j, m, rfl, _⟩ := h
    rfl
  · obtain ⟨j, m, rfl, hj, m0, m8, fin⟩ := h
    refine ⟨_, pss_cons (ps_par (i := 2) (j := 3) (by rfl) scHeads.nd rfl rfl (by decide) rfl rfl
        (pa_cons (pe_lst (pa_cons pe_str (pa_cons pe_str (pa_cons pe_str (pa_cons pe_str (pa_cons pe_str (pa_cons pe_str (pa_cons pe_str (pa_cons pe_str pa_nil))))))))) (pa_cons (pe_lst pa_nil) pa_nil)) (by rfl))
      (pss_cons (ps_for PassesOwn.never rfl (pi_range1 rfl T.rng (pa_cons (pe_op op_add pe_int (pe_call GS hr rfl DS.gl DS.kp DS.bd .nil pass0 (pa_cons (pv 0) (pa_cons (pv 1) pa_nil)))) pa_nil))
          (pg_name (i := 4) scHeads.nd rfl (Or.inl rfl))
          (pss_one (ps_expr (pe_bm PySem.F.plainAttrs_list PySem.F.slot_list_append PySem.F.type_list_append mt_append (pv 3)
            (pa_cons (pe_bm PySem.F.plainAttrs_list PySem.F.slot_list_pop PySem.F.type_list_pop mt_popAt (pv 2)
              (pa_cons (pe_call GS hr rfl DS.gl DS.kp DS.bd .nil pass0 (pa_cons (pv 0) (pa_cons (pe_callB call_len_seq (by rfl) T.len PySem.boot_len (pa_cons (pv 2) pa_nil)) pa_nil))) pa_nil)) pa_nil)))))
      (pss_one (ps_ret (pe_callTy call_tuple_of (by rfl) T.tup boot_tuple (pa_cons (pv 3) pa_nil))))), ?_⟩
    refine ⟨by show 8 ≤ sizeLine; decide, fun l hl => ⟨Nat.zero_le _, fun d hd => ⟨_, _, rfl, ?_⟩⟩⟩
    have ld : l ≠ d := fun e => by
      rw [← e, upd_same] at hd
      cases hd
    have hd0 : G d = Option.none := by
      rw [upd_ne ld.symm] at hd
      exact hd
    have lj : l ≠ j := hj.ne hl
    have dj : d ≠ j := hj.ne hd0
    refine ⟨_, rfl, _, rfl, j, m, rfl, (hj.new hl).new hd, m0, by omega, fun G1 r r0 r1 hj1 g1 => ⟨_, _, rfl, rfl, _, rfl, by omega, by omega, ?_⟩⟩
    refine for_range (lo := 0) (n := (1 + r).toNat) (fun i σ G' => ∃ (got rem : List Str) (v : Option V), σ = [some (.ref j), some (.int m), some (.ref l), some (.ref d), v] ∧
        G' l = some (.lst (rem.map V.str)) ∧ G' d = some (.lst (got.map V.str)) ∧ (got ++ rem).Perm pool0 ∧ got.length = i ∧ Jug G' j ∧ Grow j G G') ?_ ?_ ?_
    · refine ⟨[], pool0, _, rfl, ?_, ?_, .refl _, rfl, hj1, ((((Grow.refl j G).new hl).new hd).trans g1)⟩
      · exact g1 _ _ lj (by rw [upd_ne ld]; exact upd_same)
      · exact g1 _ _ dj upd_same
    · rintro i σ G2 hi ⟨got, rem, v, rfl, el, ed, pm, gl, hj2, g2⟩
      have tot : got.length + rem.length = 8 := by
        rw [← List.length_append, pm.length_eq]
        rfl
      refine ⟨_, rfl, .inl ⟨rfl, _, SqL.of ed⟩, _, rfl, .inl ⟨rfl, _, SqL.of el⟩, _, rfl, _, rfl, l, _, rfl, .inl (SqL.of el), j, _, rfl, hj2, ?_, ?_, fun G3 q q0 q1 hj3 g3 => ?_⟩
      · rw [List.length_map]
        omega
      · rw [List.length_map]
        omega
      · rw [List.length_map] at q1
        have lt : q.toNat < rem.length := by omega
        have el3 := g3 _ _ lj el
        have ed3 := g3 _ _ dj ed
        refine ⟨l, _, q, q.toNat, .str rem[q.toNat], rfl, rfl, el3, by omega, by omega, ?_, by simp [lt], ?_⟩
        · unfold seqIndex?
          rw [List.length_map]
          simp
          omega
        · refine ⟨d, _, _, rfl, rfl, by rw [upd_ne ld.symm]; exact ed3, ?_, ?_⟩
          · rw [List.length_map]
            exact small1000 (by omega)
          · refine ⟨got ++ [rem[q.toNat]], rem.eraseIdx q.toNat, _, rfl, ?_, ?_, (perm_pop lt).trans pm, by simp [gl], ?_, ?_⟩
            · rw [upd_ne ld, upd_same, erase_map]
            · rw [upd_same, List.map_append]
              rfl
            · obtain ⟨a, b, c, e, bb⟩ := hj3
              exact ⟨a, b, c, by rw [upd_ne dj.symm, upd_ne lj.symm]; exact e, bb⟩
            · exact ((g2.trans g3).put hl).put hd0
    · rintro σ G2 ⟨got, rem, v, rfl, el, ed, pm, gl, hj2, g2⟩
      refine ⟨_, rfl, d, _, rfl, .inl ⟨SqL.of ed, fun t ht => ?_⟩⟩
      have nd : (got ++ rem).Nodup := pm.nodup_iff.mpr pool_nodup
      refine fin _ t got ⟨?_, (List.nodup_append.mp nd).1, fun x hx => pm.mem_iff.mp (List.mem_append_left _ hx)⟩ ?_ (g2.free (hj2.ne ht) ht) upd_same (hj2.new ht) (g2.new ht)
      · intro e
        rw [e] at gl
        have : (0 : Nat) = (1 + r).toNat := gl
        omega
      · rw [gl]
        omega
end
end Fs

namespace Fs
open PySem PySem.Spec PyProof.Rows L2
abbrev sRoads : Stmt := (top 32)
/-- a tie as it lies: where its tuple stands, and its two parts -/
abbrev Tie := Addr × Str × Str
def TieOk (G : Hp) (e : Tie) : Prop := G e.1 = some (.tup [.str e.2.1, .str e.2.2])
def refs (L : List Tie) : List V := L.map fun e => V.ref e.1
def Roads (xs : List Str) (L : List Tie) : Prop := (L.map (·.2)).Nodup ∧ ∀ e ∈ L, e.2.1 ∈ xs ∧ e.2.2 ∈ xs ∧ e.2.1 ≠ e.2.2
def spRoads : Sp := fun vs G Z _ => ∃ (j p : Addr) (xs : List Str), vs = [.ref j, .ref p] ∧ Jug G j ∧ G p = some (.tup (xs.map V.str)) ∧ xs.Nodup ∧ xs.length ≤ 8 ∧
  ∀ (G' : Hp) (q : Addr) (L : List Tie), Roads xs L → L.length ≤ 64 → G q = none → G' q = some (.tup (refs L)) → (∀ e ∈ L, TieOk G' e) → Jug G' j → Grow j G G' → Z (.ref q) G'
/-- all ties so far are of places ahead of (k, n) -/
def Ahead (xs : List Str) (k n : Nat) (L : List Tie) : Prop := (L.map (·.2)).Nodup ∧
  ∀ e ∈ L, ∃ a b : Nat, xs[a]? = some e.2.1 ∧ xs[b]? = some e.2.2 ∧ a ≠ b ∧ (a < k ∨ (a = k ∧ b < n))
theorem Ahead.mono {xs : List Str} {k n k' n' : Nat} {L : List Tie} (h : Ahead xs k n L) (le : ∀ a b : Nat, a < xs.length → b < xs.length → (a < k ∨ (a = k ∧ b < n)) → (a < k' ∨ (a = k' ∧ b < n'))) : Ahead xs k' n' L :=
  ⟨h.1, fun e he => let ⟨a, b, h1, h2, h3, h4⟩ := h.2 e he; ⟨a, b, h1, h2, h3, le a b (List.getElem?_eq_some_iff.mp h1).1 (List.getElem?_eq_some_iff.mp h2).1 h4⟩⟩
theorem ins_perm {α : Type} (L : List α) (i : Nat) (y : α) : (L.take i ++ [y] ++ L.drop i).Perm (y :: L) := by
  rw [List.append_assoc]
  refine (List.perm_middle (l₁ := L.take i) (a := y) (l₂ := L.drop i)).trans ?_
  rw [List.take_append_drop]
theorem Ahead.put {xs : List Str} {k n i : Nat} {L : List Tie} {t : Addr} (h : Ahead xs k n L) (nd : xs.Nodup) (hk : k < xs.length) (hn : n < xs.length) (ne : k ≠ n) :
    Ahead xs k (n + 1) (L.take i ++ [(t, xs[k], xs[n])] ++ L.drop i) := by
  have pm := ins_perm L i (t, xs[k], xs[n])
  refine ⟨?_, fun e he => ?_⟩
  · refine (pm.map (·.2)).nodup_iff.mpr (List.nodup_cons.mpr ⟨fun m => ?_, h.1⟩)
    obtain ⟨e, he, ee⟩ := List.mem_map.mp m
    obtain ⟨a, b, h1, h2, _, h4⟩ := h.2 e he
    have e1 : e.2.1 = xs[k] := congrArg Prod.fst ee
    have e2 : e.2.2 = xs[n] := congrArg Prod.snd ee
    have ak : a = k := nd_ix nd h1 (by rw [e1]; simp [hk])
    have bn : b = n := nd_ix nd h2 (by rw [e2]; simp [hn])
    omega
  · rcases List.mem_cons.mp (pm.mem_iff.mp he) with rfl | he
    · exact ⟨k, n, by simp [hk], by simp [hn], ne, .inr ⟨rfl, Nat.lt_succ_self _⟩⟩
    · obtain ⟨a, b, h1, h2, h3, h4⟩ := h.2 e he
      exact ⟨a, b, h1, h2, h3, by omega⟩
theorem Ahead.roads {xs : List Str} {k n : Nat} {L : List Tie} (h : Ahead xs k n L) (nd : xs.Nodup) : Roads xs L :=
  ⟨h.1, fun e he => by
    obtain ⟨a, b, h1, h2, h3, _⟩ := h.2 e he
    refine ⟨List.mem_of_getElem? h1, List.mem_of_getElem? h2, fun q => h3 (nd_ix nd h1 (q ▸ h2))⟩⟩
theorem TieOk.mono {G G' : Hp} {j : Addr} {e : Tie} (h : TieOk G e) (hj : Jug G j) (g : Grow j G G') : TieOk G' e := g _ _ (hj.ne_tup h) h
section
variable {P : Program} {w : World} {K : PySem.W.Frag} {mg : Str → Option Value} {base : Heap}
theorem scRoads : FnScope ["_law_jug_here", "_law_heads_here", "_law_size", "_law_dense", "_law_found", "_law_k", "_law_j"] ["_law_jug_here", "_law_heads_here"] (defScope sRoads) := ⟨rfl, rfl, rfl, by decide +kernel, rfl, by decide +kernel, by decide +kernel⟩
theorem ok_roads {f fS : Addr} {fd fdS : FuncData} (F : Fun K "_law_roads" "_law_roads" sRoads f fd) (T : TB mg) (DS : DefAt K mg "_law_sip" ["_law_jug_here", "_law_most"] sSip fS fdS) :
    FnOk P w K mg base CX0 2 f fd ["_law_jug_here", "_law_heads_here"] spRoads := by
  have GS : FnOk P w K mg base CX0 1 fS fdS ["_law_jug_here", "_law_most"] spSip := ok_sip DS.fn T
  refine F.ok scRoads (fun vs G Z E h => ?_) (fun cdv A out st G vs Z E hr h => ?_)
  · obtain ⟨j, p, xs, rfl, _⟩ := h
    rfl
  · obtain ⟨j, p, xs, rfl, hj, hp, nd, few, fin⟩ := h
    refine ⟨_, pss_cons (ps_par3 (i := 2) (j := 3) (l := 4) (by rfl) scRoads.nd rfl rfl rfl (by decide) (by decide) (by decide) rfl rfl rfl
        (pa_cons (pe_callB call_len_seq (by rfl) T.len PySem.boot_len (pa_cons (pv 1) pa_nil)) (pa_cons (pe_call GS hr rfl DS.gl DS.kp DS.bd .nil pass0 (pa_cons (pv 0) (pa_cons pe_int pa_nil))) (pa_cons (pe_lst pa_nil) pa_nil))) (by rfl))
      (pss_cons (ps_for PassesOwn.never rfl (pi_range1 rfl T.rng (pa_cons (pv 2) pa_nil)) (pg_name (i := 5) scRoads.nd rfl (Or.inl rfl))
          (pss_one (ps_for PassesOwn.never rfl (pi_range1 rfl T.rng (pa_cons (pv 2) pa_nil)) (pg_name (i := 6) scRoads.nd rfl (Or.inl rfl))
            (pss_one (ps_if (PW.pt (pw_and (pt_cmpR op_ne (pv 5) (pv 6) (nomark _)) (pw_and1 (pt_cmpR op_eq (pe_call GS hr rfl DS.gl DS.kp DS.bd .nil pass0 (pa_cons (pv 0)
                  (pa_cons (pe_ix ix_list (pe_lst (pa_cons pe_int (pa_cons pe_int (pa_cons pe_int (pa_cons pe_int pa_nil))))) (pv 3) (fun _ _ => rfl)) pa_nil))) pe_int (nomark _)))))
                (pss_one (ps_expr (pe_bm PySem.F.plainAttrs_list PySem.F.slot_list_insert PySem.F.type_list_insert mt_insert (pv 4)
                  (pa_cons (pe_call GS hr rfl DS.gl DS.kp DS.bd .nil pass0 (pa_cons (pv 0) (pa_cons (pe_op op_add (pe_callB call_len_seq (by rfl) T.len PySem.boot_len (pa_cons (pv 4) pa_nil)) pe_int) pa_nil)))
                    (pa_cons (pe_tup (pa_cons (pe_ix ix_tup (pv 1) (pv 5) (fun _ _ => rfl)) (pa_cons (pe_ix ix_tup (pv 1) (pv 6) (fun _ _ => rfl)) pa_nil))) pa_nil))))) pss_nil)))))
      (pss_one (ps_ret (pe_callTy call_tuple_of (by rfl) T.tup boot_tuple (pa_cons (pv 4) pa_nil))))), ?_⟩
    have pj : p ≠ j := hj.ne_tup hp
    refine ⟨_, rfl, p, _, rfl, .inr (SqT.of hp), _, rfl, j, _, rfl, hj, by decide, by decide, fun G1 s s0 s1 hj1 g1 => ⟨Nat.zero_le _, fun d hd1 => ⟨_, _, _, rfl, ?_⟩⟩⟩
    have dj : d ≠ j := hj1.ne hd1
    have hd : G d = Option.none := g1.free dj hd1
    have lenx : ((xs.map V.str).length : Int) = xs.length := by rw [List.length_map]
    refine ⟨_, rfl, _, rfl, by rw [lenx]; omega, by rw [lenx]; omega, ?_⟩
    rw [lenx]
    refine for_range (lo := 0) (n := (xs.length : Int).toNat) (fun k σ G' => ∃ (L : List Tie) (v1 v2 : Option V), σ = [some (.ref j), some (.ref p), some (.int xs.length), some (.int s), some (.ref d), v1, v2] ∧
        G' d = some (.lst (refs L)) ∧ (∀ e ∈ L, TieOk G' e) ∧ Ahead xs k 0 L ∧ L.length ≤ k * 8 ∧ Jug G' j ∧ Grow j G G') ?_ ?_ ?_
    · exact ⟨[], _, _, by rw [← lenx]; rfl, upd_same, fun _ m => (List.not_mem_nil m).elim, ⟨List.nodup_nil, fun _ m => (List.not_mem_nil m).elim⟩, Nat.zero_le _, hj1.new hd1, g1.new hd1⟩
    · rintro k σ G2 hk ⟨L, v1, v2, rfl, ed, ties, ah, len, hj2, g2⟩
      refine ⟨_, rfl, _, rfl, by omega, by omega, ?_⟩
      refine for_range (lo := 0) (n := (xs.length : Int).toNat) (fun n σ G' => ∃ (L : List Tie) (v2 : Option V), σ = [some (.ref j), some (.ref p), some (.int xs.length), some (.int s), some (.ref d), some (.int (0 + (k : Int))), v2] ∧
        G' d = some (.lst (refs L)) ∧ (∀ e ∈ L, TieOk G' e) ∧ Ahead xs k n L ∧ L.length ≤ k * 8 + n ∧ Jug G' j ∧ Grow j G G') ?_ ?_ ?_
      · exact ⟨L, _, rfl, ed, ties, ah, len, hj2, g2⟩
      · rintro n σ G3 hn ⟨L, v2, rfl, ed, ties, ah, len, hj3, g3⟩
        have kl : k < xs.length := by omega
        have nl : n < xs.length := by omega
        have step : Ahead xs k (n + 1) L := ah.mono fun a b _ _ q => by omega
        refine ⟨_, rfl, _, rfl, rfl, _, rfl, ?_⟩
        by_cases same : k = n
        · have q : (!decide (V.int (0 + (k : Int)) = V.int (0 + (n : Int)))) = false := by
            rw [same]
            simp
          show if (!decide (V.int (0 + (k : Int)) = V.int (0 + (n : Int)))) = true then _ else _
          rw [q]
          exact iteF ⟨L, _, rfl, ed, ties, step, by omega, hj3, g3⟩
        · have q : (!decide (V.int (0 + (k : Int)) = V.int (0 + (n : Int)))) = true := by
            have ne : ¬ (V.int (0 + (k : Int)) = V.int (0 + (n : Int))) := fun e => by
              have e' : (0 + (k : Int)) = 0 + (n : Int) := V.int.inj e
              omega
            rw [decide_eq_false ne]
            rfl
          show if (!decide (V.int (0 + (k : Int)) = V.int (0 + (n : Int)))) = true then _ else _
          rw [q]
          refine iteT ⟨_, rfl, by show 4 ≤ sizeLine; decide, fun r hr3 => ?_⟩
          have pick : ∃ z : Int, atI [V.int 2, V.int 3, V.int 5, V.int 8] s = some (V.int z) ∧ 0 < z ∧ z < 1000 := by
            have : s = 0 ∨ s = 1 ∨ s = 2 ∨ s = 3 := by omega
            rcases this with rfl | rfl | rfl | rfl
            · exact ⟨2, rfl, by decide, by decide⟩
            · exact ⟨3, rfl, by decide, by decide⟩
            · exact ⟨5, rfl, by decide, by decide⟩
            · exact ⟨8, rfl, by decide, by decide⟩
          obtain ⟨z, hz, z0, z1⟩ := pick
          refine ⟨_, rfl, r, _, _, _, rfl, rfl, SqL.of upd_same, hz, j, _, rfl, hj3.new hr3, z0, z1, fun G4 u u0 u1 hj4 g4 => ?_⟩
          have g34 : Grow j G3 G4 := ((Grow.refl j G3).new hr3).trans g4
          have ed4 := g34 _ _ dj ed
          refine ⟨rfl, _, rfl, ite2 (fun _ => ?_) (fun _ => ?_)⟩
          · refine ⟨_, rfl, .inl ⟨rfl, _, SqL.of ed4⟩, _, rfl, _, rfl, d, _, rfl, .inl (SqL.of ed4), _, _, rfl, rfl, j, _, rfl, hj4, ?_, ?_, fun G5 i i0 i1 hj5 g5 => ?_⟩
            · omega
            · unfold refs
              rw [List.length_map]
              omega
            · have g35 : Grow j G3 G5 := g34.trans g5
              have ed5 := g35 _ _ dj ed
              have hp5 := (g3.trans g35) _ _ pj hp
              have hpk : atI (xs.map V.str) (0 + (k : Int)) = some (V.str xs[k]) := by
                rw [Int.zero_add]
                exact atI_nat (by simp [kl])
              have hpn : atI (xs.map V.str) (0 + (n : Int)) = some (V.str xs[n]) := by
                rw [Int.zero_add]
                exact atI_nat (by simp [nl])
              refine ⟨_, rfl, _, rfl, p, _, _, _, rfl, rfl, SqT.of hp5, hpk, _, rfl, _, rfl, p, _, _, _, rfl, rfl, SqT.of hp5, hpn, by show 2 ≤ sizeLine; decide, fun t ht => ?_⟩
              have dt : d ≠ t := ne_of_none ed5 ht
              refine ⟨d, _, i, _, rfl, rfl, by rw [upd_ne dt]; exact ed5, ?_, i0, ?_, ?_⟩
              · unfold refs
                rw [List.length_map]
                exact small1000 (by omega)
              · have : (refs L).length = L.length := List.length_map _
                omega
              · refine ⟨L.take i.toNat ++ [(t, xs[k], xs[n])] ++ L.drop i.toNat, _, rfl, ?_, fun e he => ?_, ah.put nd kl nl same, ?_, ?_, ?_⟩
                · rw [upd_same]
                  unfold refs
                  simp [List.map_take, List.map_drop]
                · rcases List.mem_cons.mp ((ins_perm L i.toNat _).mem_iff.mp he) with rfl | he
                  · show upd (upd G5 t _) d _ t = _
                    rw [upd_ne dt.symm, upd_same]
                  · have q5 : TieOk G5 e := (ties e he).mono hj3 g35
                    have n1 : e.1 ≠ d := ne_of q5 ed5 nofun
                    have n2 : e.1 ≠ t := ne_of_none q5 ht
                    show upd (upd G5 t _) d _ e.1 = _
                    rw [upd_ne n1, upd_ne n2]
                    exact q5
                · rw [(ins_perm L i.toNat _).length_eq]
                  simp only [List.length_cons]
                  omega
                · obtain ⟨a, b, c, e, bb⟩ := hj5
                  exact ⟨a, b, c, by rw [upd_ne dj.symm, upd_ne (ne_of_none e ht)]; exact e, bb⟩
                · exact ((g3.trans g35).new ht).put hd
          · exact ⟨L, _, rfl, ed4, fun e he => (ties e he).mono hj3 g34, step, by omega, hj4, g3.trans g34⟩
      · rintro σ G3 ⟨L, v2, rfl, ed, ties, ah, len, hj3, g3⟩
        exact ⟨L, _, _, rfl, ed, ties, ah.mono fun a b _ hb q => by omega, by omega, hj3, g3⟩
    · rintro σ G2 ⟨L, v1, v2, rfl, ed, ties, ah, len, hj2, g2⟩
      refine ⟨_, rfl, d, _, rfl, .inl ⟨SqL.of ed, fun t ht => ?_⟩⟩
      exact fin _ t L (ah.roads nd) (by omega) (g2.free (hj2.ne ht) ht) upd_same (fun e he => by
        show upd G2 t _ e.1 = _
        rw [upd_ne (ne_of_none (ties e he) ht)]
        exact ties e he) (hj2.new ht) (g2.new ht)
end
end Fs

namespace Fs
open PySem PySem.Spec PyProof.Rows L2
abbrev sName : Stmt := (top 21)
abbrev sAmong : Stmt := (top 22)
def letterS : Str := "abcdefghijklmnopqrstuvwxyz"
def signS : Str := "abcdefghijklmnopqrstuvwxyz0123456789"
/-- what a name is, over the codes of a text -/
def nameL : List Nat → Bool
  | [] => false
  | c :: r => decide (r.length < 8) && (decide (c ∈ letterS.cps.toList) && (c :: r).all fun d => decide (d ∈ signS.cps.toList))
def nameV : V → Bool
  | .str z => nameL z.cps.toList
  | _ => false
def amongV (v : V) (xs : List Str) : Bool := match v with
  | .str z => decide (z ∈ xs)
  | _ => false
/-- a value of which it is known whether it is a text -/
def StrOr (K : PySem.W.Frag) (G : Hp) (v : V) : Prop := (∃ z : Str, v = .str z ∧ z.length ≤ 100000) ∨
  ((∀ z : Str, v ≠ .str z) ∧ ∃ t, TyX K G v t ∧ PySem.W.kitOne K t (.type "str") = some false)
theorem StrOr.name {K : PySem.W.Frag} {G : Hp} {v : V} (h : (∀ z : Str, v ≠ .str z)) : nameV v = false := by
  cases v with
  | str z => exact absurd rfl (h z)
  | _ => rfl
theorem StrOr.among {v : V} {xs : List Str} (h : (∀ z : Str, v ≠ .str z)) : amongV v xs = false := by
  cases v with
  | str z => exact absurd rfl (h z)
  | _ => rfl
structure TN (mg : Str → Option Value) : Prop where
  isi : mg "isinstance" = none
  str : mg "str" = none
  len : mg "len" = none
  all : mg "all" = none
  letters : ∃ t, mg "_LETTERS" = some (.str letterS t)
  signs : ∃ t, mg "_SIGNS" = some (.str signS t)
  most : ∃ t, mg "_MOST_SIGNS" = some (.int 8 t)
def spName (K : PySem.W.Frag) : Sp := fun vs G Z _ => ∃ v, vs = [v] ∧ StrOr K G v ∧ ∀ G', Same G G' → Z (.bl (nameV v)) G'
def spAmong (K : PySem.W.Frag) : Sp := fun vs G Z _ => ∃ v p xs, vs = [v, .ref p] ∧ StrOr K G v ∧ SqT K G p (xs.map V.str) ∧ Z (.bl (amongV v xs)) G
theorem inV_str {z : Str} : ∀ {xs : List Str}, inV (.str z) (xs.map V.str) = decide (z ∈ xs)
  | [] => rfl
  | x :: r => by
    have ih := inV_str (z := z) (xs := r)
    show (x == z || inV (.str z) (r.map V.str)) = _
    rw [ih]
    by_cases e : x = z
    · simp [e]
    · have e2 : ¬ z = x := fun q => e q.symm
      simp [e, e2]
theorem flat_strs : ∀ (xs : List Str), (xs.map V.str).all flatV = true
  | [] => rfl
  | x :: r => flat_strs r
section
variable {P : Program} {w : World} {K : PySem.W.Frag} {mg : Str → Option Value} {base : Heap}
theorem scName : FnScope ["value", "sign"] ["value"] (defScope sName) := ⟨rfl, rfl, rfl, by decide +kernel, rfl, by decide +kernel, by decide +kernel⟩
theorem ok_name {f : Addr} {fd : FuncData} (F : Fun K "is_name" "is_name" sName f fd) (T : TN mg) : FnOk P w K mg base CX0 1 f fd ["value"] (spName K) := by
  obtain ⟨t1, e1⟩ := T.letters
  obtain ⟨t2, e2⟩ := T.signs
  obtain ⟨t3, e3⟩ := T.most
  refine F.ok scName (fun vs G Z E h => ?_) (fun cdv A out st G vs Z E hr h => ?_)
  · obtain ⟨v, rfl, _⟩ := h
    rfl
  · obtain ⟨v, rfl, hv, fin⟩ := h
    refine ⟨_, pss_cons (ps_if (PW.pt (pw_or (pt_not (pt_val (pe_callB call_isi (by rfl) T.isi boot_isinstance (pa_cons (pv 0) (pa_cons (pe_bltn (v := .ty "str") (by rfl) T.str boot_str rfl) pa_nil)))))
          (pw_or1 (pt_not (pt_chain op_le op_le pe_int (pe_callB call_len_str (by rfl) T.len PySem.boot_len (pa_cons (pv 0) pa_nil)) (pe_glob (v := .int 8) rfl e3 ⟨_, rfl⟩))))))
        (pss_one (ps_ret pe_bl)) pss_nil)
      (pss_one (ps_ret (pe_and (pe_cmpR op_in_sign (pe_ix ix_str (pv 0) pe_int (fun _ _ => rfl)) (pe_glob (v := .str letterS) rfl e1 ⟨_, rfl⟩) rfl)
        (pe_one (pe_callB (cr_all rfl) (by rfl) T.all boot_all (pa_cons (pe_lc (own := [("sign", 1)]) (g := gName 1) (tt := tYes) rfl scName.nd (pi_str (pv 0)) (blkOk_by (N := ["value", "sign"]) (sc := defScope sName) (by decide +kernel))
          (fun _ _ _ _ _ => pg_name (i := 1) scName.nd rfl (Or.inl rfl)) (fun _ _ _ _ _ => pts_nil) (fun _ _ _ _ _ => pe_cmpR op_in_sign (pv 1) (pe_glob (v := .str signS) rfl e2 ⟨_, rfl⟩) rfl)) pa_nil)))))), ?_⟩
    rcases hv with ⟨z, rfl, hz⟩ | ⟨no, t, ty, hk⟩
    · refine ⟨_, rfl, _, _, _, _, true, rfl, .ty _, .base (.str z), kit_ty (by decide +kernel), _, rfl, ?_⟩
      have fin' : ∀ (b : Bool) (G' : Hp), nameL z.cps.toList = b → Same G G' → Z (.bl b) G' := fun b G' q s => by
        have e := fin G' s
        rw [show nameV (.str z) = b from q] at e
        exact e
      have size : z.length = z.cps.toList.length := by
        show z.cps.size = _
        rw [Array.length_toList]
      refine iteF ⟨_, rfl, z, rfl, Nat.le_trans hz (by decide), _, _, rfl, rfl, _, rfl, ?_⟩
      refine ite2 (fun c => ?_) (fun c => ?_)
      · refine ⟨_, _, rfl, rfl, _, rfl, ?_⟩
        have c1 : (1 : Int) ≤ z.length := of_decide_eq_true c
        by_cases d : (z.length : Int) ≤ 8
        · rw [decide_eq_true d]
          refine iteF ?_
          obtain ⟨h, r, hr2⟩ : ∃ h r, z.cps.toList = h :: r := by
            cases e : z.cps.toList with
            | nil =>
              rw [e] at size
              simp at size
              omega
            | cons h r => exact ⟨h, r, rfl⟩
          have lt8 : r.length < 8 := by
            rw [hr2] at size
            simp at size
            omega
          refine ⟨_, rfl, _, _, h, rfl, rfl, Nat.le_trans hz (by decide), by rw [hr2]; exact atI_nat (j := 0) rfl, h, letterS, rfl, rfl, _, rfl, ?_⟩
          refine ite2 (fun e => ?_) (fun e => ?_)
          · refine ⟨_, rfl, z, rfl, fun D hD => ?_⟩
            refine lc_it walk_str (fun i G' => G' = upd G D (.lst ((z.cps.toList.take i).map fun c => V.bl (decide (c ∈ signS.cps.toList))))) rfl (fun _ _ _ _ => trivial) ?_ ?_
            · rintro i x _ G' hi rfl ⟨rfl, c, hc, rfl⟩
              refine ⟨rfl, _, rfl, c, signS, rfl, rfl, _, upd_same, ?_, ?_⟩
              · rw [List.length_map, List.length_take]
                exact small1000 (by omega)
              · have hc' : z.cps.toList[i]? = some c := by simpa using hc
                have tk : z.cps.toList.take (i + 1) = z.cps.toList.take i ++ [c] := by
                  rw [List.take_succ, hc']
                  rfl
                rw [upd_upd, tk, List.map_append]
                rfl
            · rintro _ rfl
              refine ⟨_, z.cps.toList.map fun c => decide (c ∈ signS.cps.toList), rfl, ?_, fin' _ _ ?_ ((Same.refl G).new hD)⟩
              · refine SqL.of ?_
                rw [upd_same, List.map_map, ← Array.length_toList, List.take_length]
                rfl
              · have e' : decide (h ∈ letterS.cps.toList) = true := e
                rw [hr2]
                show (decide (r.length < 8) && (decide (h ∈ letterS.cps.toList) && _)) = _
                rw [decide_eq_true lt8, e', List.all_map]
                rfl
          · refine fin' false G ?_ (Same.refl G)
            rw [hr2]
            have q : decide (h ∈ letterS.cps.toList) = false := by
              cases q : decide (h ∈ letterS.cps.toList) with
              | true => exact absurd q e
              | false => rfl
            show (decide (r.length < 8) && (decide (h ∈ letterS.cps.toList) && _)) = _
            rw [q, Bool.false_and, Bool.and_false]
        · rw [decide_eq_false d]
          refine iteT (fin' false G ?_ (Same.refl G))
          cases e : z.cps.toList with
          | nil => rfl
          | cons h r =>
            rw [e] at size
            have q : decide (r.length < 8) = false := decide_eq_false (by simp at size; omega)
            show (decide (r.length < 8) && _) = false
            rw [q]
            rfl
      · refine ⟨_, rfl, iteT (fin' false G ?_ (Same.refl G))⟩
        cases e : z.cps.toList with
        | nil => rfl
        | cons h r =>
          rw [e] at size
          have : ¬ (1 : Int) ≤ z.length := fun q => c (decide_eq_true q)
          simp at size
          omega
    · refine ⟨_, rfl, _, _, _, _, false, rfl, .ty _, ty, hk, _, rfl, ?_⟩
      refine iteT ?_
      have e := fin G (Same.refl G)
      rw [StrOr.name (K := K) (G := G) no] at e
      exact e
theorem scAmong : FnScope ["value", "names"] ["value", "names"] (defScope sAmong) := ⟨rfl, rfl, rfl, by decide +kernel, rfl, by decide +kernel, by decide +kernel⟩
theorem ok_among {f : Addr} {fd : FuncData} (F : Fun K "is_among" "is_among" sAmong f fd) (T : TN mg) : FnOk P w K mg base CX0 1 f fd ["value", "names"] (spAmong K) := by
  refine F.ok scAmong (fun vs G Z E h => ?_) (fun cdv A out st G vs Z E hr h => ?_)
  · obtain ⟨v, p, xs, rfl, _⟩ := h
    rfl
  · obtain ⟨v, p, xs, rfl, hv, hp, fin⟩ := h
    refine ⟨_, pss_one (ps_ret (pe_and (pe_callB call_isi (by rfl) T.isi boot_isinstance (pa_cons (pv 0) (pa_cons (pe_bltn (v := .ty "str") (by rfl) T.str boot_str rfl) pa_nil)))
      (pe_one (pe_cmpR op_in_seq (pv 0) (pv 1) rfl)))), ?_⟩
    rcases hv with ⟨z, rfl, hz⟩ | ⟨no, t, ty, hk⟩
    · refine ⟨_, rfl, _, _, _, _, true, rfl, .ty _, .base (.str z), kit_ty (by decide +kernel), _, rfl, iteT ⟨_, rfl, _, rfl, p, _, rfl, .inr hp, rfl, flat_strs xs, ?_⟩⟩
      show Z (.bl (inV (.str z) (xs.map V.str))) G
      rw [inV_str]
      exact fin
    · refine ⟨_, rfl, _, _, _, _, false, rfl, .ty _, ty, hk, _, rfl, iteF ?_⟩
      rw [StrOr.among no] at fin
      exact fin
end
end Fs

namespace Fs
open PySem PySem.Spec PyProof.Rows L2
abbrev sParts : Stmt := (top 25)
abbrev sPair : Stmt := (top 23)
abbrev sTies : Stmt := (top 26)
/-- right parts -/
def Valid (xs : List Str) : Prop := xs ≠ [] ∧ xs.length ≤ 8 ∧ xs.Nodup ∧ ∀ x ∈ xs, nameL x.cps.toList = true
theorem name_small {z : Str} (h : nameL z.cps.toList = true) : z.length ≤ 8 := by
  have size : z.length = z.cps.toList.length := by
    show z.cps.size = _
    rw [Array.length_toList]
  rw [size]
  cases e : z.cps.toList with
  | nil => exact Nat.zero_le _
  | cons c r =>
    rw [e] at h
    have h' : (decide (r.length < 8) && _) = true := h
    have := of_decide_eq_true (Bool.and_eq_true_iff.mp h').1
    rw [List.length_cons]
    omega
theorem name_ascii {z : Str} (h : nameL z.cps.toList = true) : ∀ c ∈ z.cps.toList, c < 128 := by
  intro c hc
  cases e : z.cps.toList with
  | nil =>
    rw [e] at hc
    exact (List.not_mem_nil hc).elim
  | cons d r =>
    rw [e] at h hc
    have h' : (decide (r.length < 8) && (decide (d ∈ letterS.cps.toList) && (d :: r).all fun x => decide (x ∈ signS.cps.toList))) = true := h
    have h2 := (Bool.and_eq_true_iff.mp (Bool.and_eq_true_iff.mp h').2).2
    have h3 : c ∈ signS.cps.toList := of_decide_eq_true (List.all_eq_true.mp h2 c hc)
    have all : signS.cps.toList.all (fun x => decide (x < 128)) = true := by decide +kernel
    exact of_decide_eq_true (List.all_eq_true.mp all c h3)
theorem name_lay {z : Str} (h : nameL z.cps.toList = true) : PyData.canLay0 (.str z) = true := by
  show z.cps.all _ = true
  rw [← Array.all_toList, List.all_eq_true]
  intro c hc
  have := name_ascii h c hc
  exact decide_eq_true (by omega)
theorem heads_valid {xs : List Str} (h : Heads xs) (few : xs.length ≤ 8) : Valid xs :=
  ⟨h.1, few, h.2.1, fun x hx => by
    have all : pool0.all (fun x => nameL x.cps.toList) = true := by decide +kernel
    exact List.all_eq_true.mp all x (h.2.2 x hx)⟩
theorem sl_take {K : PySem.W.Frag} {G : Hp} {a : Addr} {xs : List V} {i : Nat} {Z : VK} (h : SqT K G a xs) (hi : i ≤ xs.length)
    (k : ∀ p G', Same G G' → SqT K G' p (xs.take i) → Z (.ref p) G') : rSlA K (.ref a) none (some (i : Int)) G Z := by
  have e1 : HT.sIx xs.length xs.length (some (i : Int)) = i := by
    rw [HT.sIx_nat]
    exact Nat.min_eq_left hi
  have e2 : cutV xs none (some (i : Int)) = xs.take i := by
    unfold cutV
    rw [e1, HT.sIx_none, List.drop_zero, Nat.sub_zero]
  refine ⟨a, xs, rfl, h, fun q => ?_, fun _ p hp => ?_⟩
  · have full : i = xs.length := e1.symm.trans q.2
    refine k a G (Same.refl G) ?_
    rw [full, List.take_length]
    exact h
  · refine k p _ ((Same.refl G).new hp) (SqT.of ?_)
    rw [upd_same, e2]
theorem not_before {α : Type} {xs : List α} (nd : xs.Nodup) {i : Nat} {x : α} (h : xs[i]? = some x) : x ∉ xs.take i := fun m => by
  obtain ⟨j, hj⟩ := List.getElem?_of_mem m
  have lt : j < i := by
    have q := (List.getElem?_eq_some_iff.mp hj).1
    rw [List.length_take] at q
    omega
  rw [List.getElem?_take_of_lt lt] at hj
  have := nd_ix nd hj h
  omega
structure TC (mg : Str → Option Value) : Prop where
  n : TN mg
  tup : mg "tuple" = none
  enm : mg "enumerate" = none
  most : ∃ t, mg "MOST_PARTS" = some (.int 8 t)
theorem tyT {K : PySem.W.Frag} {G : Hp} {a : Addr} {xs : List V} (h : SqT K G a xs) : TyX K G (.ref a) (.type "tuple") := by
  rcases h with (h | ⟨o, h⟩) | ⟨o, its, n, h, c, _⟩
  · exact .base (.tup h)
  · exact .fTuple h
  · exact .kTuple h c
def spParts (K : PySem.W.Frag) : Sp := fun vs G Z _ => ∃ p xs, vs = [.ref p] ∧ SqT K G p (xs.map V.str) ∧ Valid xs ∧ ∀ G', Same G G' → Z .non G'
def spPair (K : PySem.W.Frag) : Sp := fun vs G Z _ => ∃ v p xs, vs = [v, .ref p] ∧ SqT K G p (xs.map V.str) ∧
  ((∃ t, TyX K G v t ∧ PySem.W.kitOne K t (.type "tuple") = some false ∧ Z (.bl false) G) ∨
    ∃ a ys, v = .ref a ∧ SqT K G a ys ∧ ((ys.length ≠ 2 ∧ Z (.bl false) G) ∨
      ∃ v1 v2, ys = [v1, v2] ∧ StrOr K G v1 ∧ StrOr K G v2 ∧ Z (.bl (amongV v1 xs && (amongV v2 xs && !decide (v1 = v2)))) G))
section
variable {P : Program} {w : World} {K : PySem.W.Frag} {mg : Str → Option Value} {base : Heap}
theorem scParts : FnScope ["parts", "at", "part"] ["parts"] (defScope sParts) := ⟨rfl, rfl, rfl, by decide +kernel, rfl, by decide +kernel, by decide +kernel⟩
theorem ok_parts {f fN : Addr} {fd fdN : FuncData} (F : Fun K "_check_parts" "_check_parts" sParts f fd) (T : TC mg) (DN : DefAt K mg "is_name" ["value"] sName fN fdN) :
    FnOk P w K mg base CX0 2 f fd ["parts"] (spParts K) := by
  have GN : FnOk P w K mg base CX0 1 fN fdN ["value"] (spName K) := ok_name DN.fn T.n
  obtain ⟨t1, e1⟩ := T.most
  refine F.ok scParts (fun vs G Z E h => ?_) (fun cdv A out st G vs Z E hr h => ?_)
  · obtain ⟨p, xs, rfl, _⟩ := h
    rfl
  · obtain ⟨p, xs, rfl, hp, ok, fin⟩ := h
    refine ⟨_, pss_cons (ps_if (PW.pt (pw_or (pt_not (pt_val (pe_callB call_isi (by rfl) T.n.isi boot_isinstance (pa_cons (pv 0) (pa_cons (pe_bltn (v := .ty "tuple") (by rfl) T.tup boot_tuple rfl) pa_nil)))))
          (pw_or1 (pt_cmpR op_eq (pe_callB call_len_seq (by rfl) T.n.len PySem.boot_len (pa_cons (pv 0) pa_nil)) pe_int (nomark _))))) (pss_one ps_never) pss_nil)
      (pss_one (ps_for PassesOwn.never rfl (pi_enumT (by rfl) T.enm (pa_cons (pv 0) pa_nil)) (pg_tup rfl (pgs_cons (pg_name (i := 1) scParts.nd rfl (Or.inl rfl)) (pgs_cons (pg_name (i := 2) scParts.nd rfl (Or.inl rfl)) pgs_nil)))
        (pss_one (ps_if (PW.pt (pw_or (pt_cmpR op_eq (pv 1) (pe_glob (v := .int 8) rfl e1 ⟨_, rfl⟩) (nomark _)) (pw_or (pt_not (pt_val (pe_call GN hr rfl DN.gl DN.kp DN.bd .nil pass0 (pa_cons (pv 2) pa_nil))))
          (pw_or1 (pt_cmpR op_in_seq (pv 2) (pe_slice sl_tupA (pv 0) po_none (po_some (pv 1))) rfl))))) (pss_one ps_never) pss_nil)))), ?_⟩
    refine ⟨_, rfl, _, _, _, _, true, rfl, .ty _, tyT hp, kit_ty (by decide +kernel), _, rfl, iteF ⟨_, rfl, p, _, rfl, .inr hp, rfl, _, rfl, ?_⟩⟩
    have ne : ¬ (V.int ((xs.map V.str).length : Int) = V.int 0) := fun q => by
      have q' : ((xs.map V.str).length : Int) = 0 := V.int.inj q
      rw [List.length_map] at q'
      exact ok.1 (List.length_eq_zero_iff.mp (by omega))
    rw [decide_eq_false ne]
    refine iteF ⟨_, rfl, p, _, rfl, hp, for_it walk_enumT (fun i σ G' => ∃ v1 v2, σ = [some (.ref p), v1, v2] ∧ Same G G') ⟨_, _, rfl, Same.refl G⟩ (fun i σ G' _ ⟨_, _, _, s⟩ => Evl.ex_t s hp) ?_ ?_⟩
    · rintro i x σ G1 G2 hi ⟨v1, v2, rfl, s1⟩ ⟨r, y1, y2, rfl, hr1, rfl, e2, e3⟩
      obtain rfl : y1 = V.int (i : Nat) := (Option.some.inj e2).symm
      rw [List.length_map] at hi
      obtain rfl : y2 = V.str xs[i] := by
        have e4 : (xs.map V.str)[i]? = some y2 := e3
        rw [List.getElem?_map, List.getElem?_eq_getElem hi] at e4
        exact (Option.some.inj e4).symm
      have nm := ok.2.2.2 xs[i] (List.getElem_mem hi)
      have s2 : Same G (upd G1 r (.tup [.int (i : Nat), .str xs[i]])) := s1.new hr1
      refine ⟨r, _, rfl, SqT.of upd_same, rfl, _, _, rfl, _, _, rfl, rfl, _, rfl, rfl, _, rfl, ?_⟩
      have n8 : ¬ (V.int ((i : Nat) : Int) = V.int 8) := fun q => by
        have q' : ((i : Nat) : Int) = 8 := V.int.inj q
        have := ok.2.1
        omega
      show if decide (V.int ((i : Nat) : Int) = V.int 8) = true then _ else _
      rw [decide_eq_false n8]
      refine iteF ⟨_, rfl, _, rfl, .inl ⟨_, rfl, Nat.le_trans (name_small nm) (by decide)⟩, fun G3 s3 => ⟨_, rfl, ?_⟩⟩
      rw [show nameV (.str xs[i]) = true from nm]
      refine iteF ⟨_, rfl, _, rfl, _, rfl, _, rfl, ?_⟩
      have hp3 := Evl.ex_t (s2.trans s3) hp
      refine sl_take hp3 (by rw [List.length_map]; omega) fun q G4 s4 hq => ⟨q, _, rfl, .inr hq, rfl, ?_, _, rfl, ?_⟩
      · rw [← List.map_take]
        exact flat_strs _
      · have no : inV (V.str xs[i]) ((xs.map V.str).take i) = false := by
          rw [← List.map_take, inV_str]
          exact decide_eq_false (not_before ok.2.2.1 (List.getElem?_eq_getElem hi))
        show if inV (V.str xs[i]) ((xs.map V.str).take i) = true then _ else _
        rw [no]
        exact iteF ⟨_, _, rfl, (s2.trans s3).trans s4⟩
    · rintro σ G1 ⟨v1, v2, rfl, s1⟩
      exact fin _ s1
theorem scPair : FnScope ["value", "names", "one", "other"] ["value", "names"] (defScope sPair) := ⟨rfl, rfl, rfl, by decide +kernel, rfl, by decide +kernel, by decide +kernel⟩
theorem ok_pair {f fA : Addr} {fd fdA : FuncData} (F : Fun K "is_pair" "is_pair" sPair f fd) (T : TC mg) (DA : DefAt K mg "is_among" ["value", "names"] sAmong fA fdA) :
    FnOk P w K mg base CX0 2 f fd ["value", "names"] (spPair K) := by
  have GA : FnOk P w K mg base CX0 1 fA fdA ["value", "names"] (spAmong K) := ok_among DA.fn T.n
  refine F.ok scPair (fun vs G Z E h => ?_) (fun cdv A out st G vs Z E hr h => ?_)
  · obtain ⟨v, p, xs, rfl, _⟩ := h
    rfl
  · obtain ⟨v, p, xs, rfl, hp, h⟩ := h
    refine ⟨_, pss_cons (ps_if (PW.pt (pw_or (pt_not (pt_val (pe_callB call_isi (by rfl) T.n.isi boot_isinstance (pa_cons (pv 0) (pa_cons (pe_bltn (v := .ty "tuple") (by rfl) T.tup boot_tuple rfl) pa_nil)))))
          (pw_or1 (pt_cmpR op_ne (pe_callB call_len_seq (by rfl) T.n.len PySem.boot_len (pa_cons (pv 0) pa_nil)) pe_int (nomark _))))) (pss_one (ps_ret pe_bl)) pss_nil)
      (pss_cons (ps_asg (pv 0) (pg_tup rfl (pgs_cons (pg_name (i := 2) scPair.nd rfl (Or.inl rfl)) (pgs_cons (pg_name (i := 3) scPair.nd rfl (Or.inl rfl)) pgs_nil))))
      (pss_one (ps_ret (pe_and (pe_call GA hr rfl DA.gl DA.kp DA.bd .nil pass0 (pa_cons (pv 2) (pa_cons (pv 1) pa_nil)))
        (pe_and (pe_call GA hr rfl DA.gl DA.kp DA.bd .nil pass0 (pa_cons (pv 3) (pa_cons (pv 1) pa_nil))) (pe_one (pe_cmpR op_ne (pv 2) (pv 3) (nomark _)))))))), ?_⟩
    rcases h with ⟨t, ty, hk, z⟩ | ⟨a, ys, rfl, ha, h⟩
    · exact ⟨_, rfl, _, _, _, _, false, rfl, .ty _, ty, hk, _, rfl, iteT z⟩
    · refine ⟨_, rfl, _, _, _, _, true, rfl, .ty _, tyT ha, kit_ty (by decide +kernel), _, rfl, iteF ⟨_, rfl, a, _, rfl, .inr ha, rfl, _, rfl, ?_⟩⟩
      rcases h with ⟨n2, z⟩ | ⟨v1, v2, rfl, h1, h2, z⟩
      · have ne : ¬ (V.int (ys.length : Int) = V.int 2) := fun q => by
          have q' : (ys.length : Int) = 2 := V.int.inj q
          omega
        show if (!decide (V.int (ys.length : Int) = V.int 2)) = true then _ else _
        rw [decide_eq_false ne]
        exact iteT z
      · refine iteF ⟨_, rfl, a, _, rfl, ha, rfl, _, _, rfl, _, _, rfl, rfl, ?_⟩
        refine ⟨_, rfl, _, rfl, _, p, xs, rfl, h1, hp, _, rfl, ?_⟩
        cases c1 : amongV v1 xs with
        | false =>
          rw [c1] at z
          exact iteF z
        | true =>
          rw [c1] at z
          refine iteT ⟨_, rfl, _, rfl, _, p, xs, rfl, h2, hp, _, rfl, ?_⟩
          cases c2 : amongV v2 xs with
          | false =>
            rw [c2] at z
            exact iteF z
          | true =>
            rw [c2] at z
            have s1 : ∃ y, v1 = .str y := by
              cases v1 with
              | str y => exact ⟨y, rfl⟩
              | _ => cases c1
            have s2 : ∃ y, v2 = .str y := by
              cases v2 with
              | str y => exact ⟨y, rfl⟩
              | _ => cases c2
            obtain ⟨y1, rfl⟩ := s1
            obtain ⟨y2, rfl⟩ := s2
            exact iteT ⟨_, rfl, _, rfl, rfl, z⟩
/-! ### ties as data -/
def tieD (e : Str × Str) : PyData := .tuple [.str e.1, .str e.2]
theorem tieD_eqv (a b : Str × Str) : PyData.eqv (tieD a) (tieD b) = decide (a = b) := by
  obtain ⟨a1, a2⟩ := a
  obtain ⟨b1, b2⟩ := b
  have e : PyData.eqv (tieD (a1, a2)) (tieD (b1, b2)) = ((a1 == b1) && ((a2 == b2) && true)) := by simp only [tieD, PyData.eqv, PyData.eqvAll]
  rw [e]
  by_cases h1 : a1 = b1
  · by_cases h2 : a2 = b2
    · simp [h1, h2]
    · simp [h1, h2]
  · simp [h1]
theorem tieD_lay {a : Str × Str} (h1 : PyData.canLay0 (.str a.1) = true) (h2 : PyData.canLay0 (.str a.2) = true) : (tieD a).canLay0 = true := by
  simp only [tieD, PyData.canLay0, PyData.canLayAll0, Bool.and_true, Bool.and_eq_true]
  exact ⟨h1, h2⟩
theorem tieD_depth (a : Str × Str) : (tieD a).depth = 1 := by simp [tieD, PyData.depth, PyData.depthAll]
theorem tieDs_lay : ∀ {l : List (Str × Str)}, (∀ e ∈ l, (tieD e).canLay0 = true) → PyData.canLayAll0 (l.map tieD) = true
  | [], _ => rfl
  | e :: r, h => by
    show ((tieD e).canLay0 && PyData.canLayAll0 (r.map tieD)) = true
    rw [h e List.mem_cons_self, tieDs_lay fun x hx => h x (List.mem_cons_of_mem _ hx)]
    rfl
theorem tieDs_depth : ∀ (l : List (Str × Str)), PyData.depthAll (l.map tieD) ≤ 1
  | [] => Nat.zero_le _
  | e :: r => by
    have h1 := tieDs_depth r
    have h2 := tieD_depth e
    simp only [List.map_cons, PyData.depthAll]
    omega
theorem tieD_shaped {a : Str × Str} (h : (tieD a).canLay0 = true) : SeqAt.shaped (tieD a) = true := by
  show ((tieD a).canLay0 && decide ((tieD a).depth ≤ 64)) = true
  rw [h, tieD_depth]
  rfl
theorem tieDs_shaped {l : List (Str × Str)} (h : ∀ e ∈ l, (tieD e).canLay0 = true) : SeqAt.shaped (.tuple (l.map tieD)) = true := by
  have h1 := tieDs_depth l
  have h2 : PyData.depth (.tuple (l.map tieD)) ≤ 64 := by
    simp only [PyData.depth]
    omega
  show (PyData.canLay0 (.tuple (l.map tieD)) && decide (PyData.depth (.tuple (l.map tieD)) ≤ 64)) = true
  rw [decide_eq_true h2, Bool.and_true]
  simp only [PyData.canLay0]
  exact tieDs_lay h
theorem any_tie {a : Str × Str} : ∀ {l : List (Str × Str)}, ((l.map tieD).any fun z => PyData.eqv z (tieD a)) = decide (a ∈ l)
  | [] => rfl
  | e :: r => by
    have ih := any_tie (a := a) (l := r)
    show (PyData.eqv (tieD e) (tieD a) || ((r.map tieD).any fun z => PyData.eqv z (tieD a))) = _
    rw [ih, tieD_eqv]
    by_cases h : e = a
    · simp [h]
    · have h2 : ¬ a = e := fun q => h q.symm
      simp [h, h2]
theorem dp_tie {K : PySem.W.Frag} {G : Hp} {a : Addr} {x y : Str} (h : SqT K G a [.str x, .str y]) : Dp K G (.ref a) (tieD (x, y)) := .tup h (.cons (.str x) (.cons (.str y) .nil))
/-- ties that lie in a heap, a tuple of them at q -/
structure TiesAt (K : PySem.W.Frag) (G : Hp) (q : Addr) (L : List Tie) : Prop where
  tup : SqT K G q (refs L)
  each : ∀ e ∈ L, SqT K G e.1 [.str e.2.1, .str e.2.2]
theorem dps_tie {K : PySem.W.Frag} {G : Hp} : ∀ {L : List Tie}, (∀ e ∈ L, SqT K G e.1 [.str e.2.1, .str e.2.2]) → DpAll K G (refs L) ((L.map (·.2)).map tieD)
  | [], _ => .nil
  | e :: r, h => .cons (dp_tie (h e List.mem_cons_self)) (dps_tie fun x hx => h x (List.mem_cons_of_mem _ hx))
theorem TiesAt.dp {K : PySem.W.Frag} {G : Hp} {q : Addr} {L : List Tie} (h : TiesAt K G q L) : Dp K G (.ref q) (.tuple ((L.map (·.2)).map tieD)) := .tup h.tup (dps_tie h.each)
theorem TiesAt.same {K : PySem.W.Frag} {G G' : Hp} {q : Addr} {L : List Tie} (h : TiesAt K G q L) (s : Same G G') : TiesAt K G' q L := ⟨Evl.ex_t s h.tup, fun e he => Evl.ex_t s (h.each e he)⟩
theorem roads_lay {xs : List Str} {L : List Tie} (ok : Valid xs) (h : Roads xs L) : ∀ e ∈ L.map (·.2), (tieD e).canLay0 = true := fun e he => by
  obtain ⟨t, ht, rfl⟩ := List.mem_map.mp he
  obtain ⟨h1, h2, _⟩ := h.2 t ht
  exact tieD_lay (name_lay (ok.2.2.2 _ h1)) (name_lay (ok.2.2.2 _ h2))
def spTies (K : PySem.W.Frag) : Sp := fun vs G Z _ => ∃ q p xs L, vs = [.ref q, .ref p] ∧ TiesAt K G q L ∧ SqT K G p (xs.map V.str) ∧ Valid xs ∧ Roads xs L ∧ ∀ G', Same G G' → Z .non G'
theorem scTies : FnScope ["ties", "parts", "at", "tie"] ["ties", "parts"] (defScope sTies) := ⟨rfl, rfl, rfl, by decide +kernel, rfl, by decide +kernel, by decide +kernel⟩
theorem ok_ties {f fP : Addr} {fd fdP : FuncData} (F : Fun K "_check_ties" "_check_ties" sTies f fd) (T : TC mg) (DP : DefAt K mg "is_pair" ["value", "names"] sPair fP fdP)
    (GP : FnOk P w K mg base CX0 2 fP fdP ["value", "names"] (spPair K)) :
    FnOk P w K mg base CX0 3 f fd ["ties", "parts"] (spTies K) := by
  refine F.ok scTies (fun vs G Z E h => ?_) (fun cdv A out st G vs Z E hr h => ?_)
  · obtain ⟨q, p, xs, L, rfl, _⟩ := h
    rfl
  · obtain ⟨q, p, xs, L, rfl, hq, hp, ok, rds, fin⟩ := h
    have ru : (cxOf CX0 P w K mg base ["ties", "parts", "at", "tie"] "_check_ties" (defScope sTies) f cdv A out st G E).nox.A.units + 65 < cLine := by
      have := hr.un
      show (A.deeper _).units + 65 < cLine
      omega
    refine ⟨_, pss_cons (ps_if (pt_not (pt_val (pe_callB call_isi (by rfl) T.n.isi boot_isinstance (pa_cons (pv 0) (pa_cons (pe_bltn (v := .ty "tuple") (by rfl) T.tup boot_tuple rfl) pa_nil))))) (pss_one ps_never) pss_nil)
      (pss_one (ps_for PassesOwn.never rfl (pi_enumT (by rfl) T.enm (pa_cons (pv 0) pa_nil)) (pg_tup rfl (pgs_cons (pg_name (i := 2) scTies.nd rfl (Or.inl rfl)) (pgs_cons (pg_name (i := 3) scTies.nd rfl (Or.inl rfl)) pgs_nil)))
        (pss_one (ps_if (PW.pt (pw_or (pt_not (pt_val (pe_call GP hr rfl DP.gl DP.kp DP.bd .nil pass0 (pa_cons (pv 3) (pa_cons (pv 1) pa_nil)))))
          (pw_or1 (pt_cmpR (op_inT ru) (pv 3) (pe_slice sl_tupA (pv 0) po_none (po_some (pv 2))) rfl)))) (pss_one ps_never) pss_nil)))), ?_⟩
    refine ⟨_, rfl, _, _, _, _, true, rfl, .ty _, tyT hq.tup, kit_ty (by decide +kernel), _, rfl, iteF ?_⟩
    refine ⟨_, rfl, q, _, rfl, hq.tup, for_it walk_enumT (fun i σ G' => ∃ v1 v2, σ = [some (.ref q), some (.ref p), v1, v2] ∧ Same G G') ⟨_, _, rfl, Same.refl G⟩ (fun i σ G' _ ⟨_, _, _, s⟩ => Evl.ex_t s hq.tup) ?_ ?_⟩
    · rintro i x σ G1 G2 hi ⟨v1, v2, rfl, s1⟩ ⟨r, y1, y2, rfl, hr1, rfl, e2, e3⟩
      obtain rfl : y1 = V.int (i : Nat) := (Option.some.inj e2).symm
      unfold refs at hi
      rw [List.length_map] at hi
      obtain rfl : y2 = V.ref L[i].1 := by
        have e4 : (refs L)[i]? = some y2 := e3
        unfold refs at e4
        rw [List.getElem?_map, List.getElem?_eq_getElem hi] at e4
        exact (Option.some.inj e4).symm
      have mem := List.getElem_mem hi
      obtain ⟨a1, a2, a3⟩ := rds.2 _ mem
      have s2 : Same G (upd G1 r (.tup [.int (i : Nat), .ref L[i].1])) := s1.new hr1
      have hq2 := hq.same s2
      have nm1 := ok.2.2.2 _ a1
      have nm2 := ok.2.2.2 _ a2
      refine ⟨r, _, rfl, SqT.of upd_same, rfl, _, _, rfl, _, _, rfl, rfl, _, rfl, _, rfl, ?_⟩
      refine ⟨_, p, xs, rfl, Evl.ex_t s2 hp, .inr ⟨_, _, rfl, hq2.each _ mem, .inr ⟨_, _, rfl, .inl ⟨_, rfl, Nat.le_trans (name_small nm1) (by decide)⟩, .inl ⟨_, rfl, Nat.le_trans (name_small nm2) (by decide)⟩, _, rfl, ?_⟩⟩⟩
      have tr : (amongV (.str L[i].2.1) xs && (amongV (.str L[i].2.2) xs && !decide (V.str L[i].2.1 = V.str L[i].2.2))) = true := by
        have b1 : amongV (.str L[i].2.1) xs = true := decide_eq_true a1
        have b2 : amongV (.str L[i].2.2) xs = true := decide_eq_true a2
        have b3 : ¬ (V.str L[i].2.1 = V.str L[i].2.2) := fun q => a3 (V.str.inj q)
        rw [b1, b2, decide_eq_false b3]
        rfl
      rw [tr]
      refine iteF ⟨_, rfl, _, rfl, _, rfl, _, rfl, ?_⟩
      refine sl_take hq2.tup (by unfold refs; rw [List.length_map]; omega) fun u G4 s4 hu => ?_
      have hq4 := hq2.same s4
      have hu4 : TiesAt K G4 u (L.take i) := ⟨by unfold refs at hu ⊢; rw [List.map_take]; exact hu, fun e he => hq4.each e (List.mem_of_mem_take he)⟩
      have lay := roads_lay ok rds
      refine ⟨tieD L[i].2, _, dp_tie (hq4.each _ mem), hu4.dp, tieD_shaped (lay _ (List.mem_map.mpr ⟨_, mem, rfl⟩)), tieDs_shaped fun e he => ?_, _, rfl, ?_⟩
      · refine lay e ?_
        rw [List.map_take] at he
        exact List.mem_of_mem_take he
      · rw [any_tie]
        have no : L[i].2 ∉ (L.take i).map (·.2) := by
          rw [List.map_take]
          exact not_before rds.1 (by rw [List.getElem?_map, List.getElem?_eq_getElem hi]; rfl)
        rw [decide_eq_false no]
        exact iteF ⟨_, _, rfl, s2.trans s4⟩
    · rintro σ G1 ⟨v1, v2, rfl, s1⟩
      exact fin _ s1
end
end Fs

namespace Fs
open PySem PySem.Spec PyProof.Rows L2
/-! ### o.m(k = v) -/
def tMethKw (C : Addr) (m : Str) (n : Nat) (sp : Sp) (gV : List V → List V → List V) (E : XK) (ta : TE) (tk : TA) : TE := fun sg G Z =>
  ta sg G fun y G1 => ∃ a dx fs, y = .ref a ∧ G1 a = some (.ins C dx fs) ∧ fs.lookup m = none ∧
    tk sg G1 fun zs G2 => zs.length = n ∧ sp (gV [.ref a] zs) G2 Z E
section
variable {X : Cx} {ex : CXT} {n : Nat} {f C : Addr} {fd : FuncData} {ps ks : List Str} {sp : Sp} {E : XK} {m : Str} {o : Expr} {apos pos : Pos} {kws : List Keyword} {ta : TE} {tk : TA} {g : List Value → List Value → List Value} {gV : List V → List V → List V}
theorem pe_methKw {pl : Sem Bool} (ho : PE X o ta) (c : Cls X.K C) (hm : Meth X.K C m f) (F : FnOk X.prog X.w X.K X.mg X.base ex n f fd ps sp) (hr : Room n X.A) (hb : KBn X.K fd ps 1 ks g gV) (hx : Passes ex X E) (hkw : PK X kws tk)
    (hall : (backToKw pos (keywordEach kws X.env)).all (·.1.isSome) = true := by rfl) (hks : (backToKw pos (keywordEach kws X.env)).filterMap (·.1) = ks := by rfl)
    (hpl : ((backTo pos (starEach [] X.env)).any (·.1) || (backToKw pos (keywordEach kws X.env)).any (·.1.isNone)) = false := by rfl)
    (ht : eval (.Call (.Attribute o m apos) [] kws pos) X.env = (do
      let obj ← eval o X.env
      standAt apos.atName
      let (fn, one) ← holding [obj] (getMethod obj m pl)
      callWith pos fn one (backTo pos (starEach [] X.env)) (backToKw pos (keywordEach kws X.env))) := by rfl) :
    PE X (.Call (.Attribute o m apos) [] kws pos) (tMethKw C m ks.length sp gV E ta tk) := by
  refine ⟨fun pn st sg G Z J h => PySem.W.methodCall_KW (pl := pl) (thn (ho.run pn st sg G _ J h) ?_) ht⟩
  rintro u st1 ⟨y, G1, J1, ry, a, dx, fs, rfl, ha, none_, h1⟩
  obtain rfl : u = Value.ref a := ry
  refine getmeth_ok J1 ha c hm none_ (PySem.W.callWith_KW0 (first := [.ref a]) (h₀ := X.base) J1.ok.mod.kin hm.kp hall ?_ hpl)
  refine thn (hkw.run pos pn st1 sg G1 _ J1 h1) fun ws st2 ⟨zs, G2, J2, rz, len, h2⟩ => ⟨J2.kIn, ?_⟩
  rw [hks]
  exact run_fnN (us := [.ref a]) (vs := [.ref a]) F hr hb hx J2 (.cons rfl .nil) rz rfl len h2
end
end Fs

namespace Fs
open PySem PySem.Spec PyProof.Rows L2
/-! ### a tuple turned round: t[::-1] -/
theorem pick_back (items : Array Value) : ((List.range items.size).filterMap fun (m : Nat) => items[(((items.size : Int) - 1) + (m : Int) * -1).toNat]?).toArray = items.toList.reverse.toArray := by
  have each : (fun (m : Nat) => items[(((items.size : Int) - 1) + (m : Int) * -1).toNat]?) = (fun k => items[k]?) ∘ fun m => items.size - 1 - m := by
    funext m
    have at_ : (((items.size : Int) - 1) + (m : Int) * -1).toNat = items.size - 1 - m := by omega
    rw [at_]
    rfl
  rw [each, ← List.filterMap_map, PySem.W.krv_range, List.filterMap_reverse, PySem.W.krv_all]
section
variable {prog : Program} {w : World} {A : Around} {E : Value → Shared → Prop} {st : Shared}
theorem applied_back {sl : Addr} {n : Nat} {u : Tok} {Z : Int × Int × Nat → Shared → Prop} (hs : st.heap.IsSliceOf sl .none .none (.int (-1) u))
    (h : Z ((n : Int) - 1, -1, n) st) : wpAny (model prog w) A (Builtin.Slice.sliceApplied (.ref sl) (pure (n : Int))) Z E st := by
  obtain ⟨ob, hob, cob, dob⟩ := id hs
  unfold Builtin.Slice.sliceApplied Builtin.Slice.sliceFields
  refine wpAny_bind (wpAny_bind (wpAny_field hob dob (x := .none) rfl (wpAny_bind (wpAny_field hob dob (x := .none) rfl (wpAny_bind (wpAny_field hob dob (x := .int (-1) u) rfl (wpAny_pure ?_)))))))
  refine wpAny_bind (slicePart_int ?_)
  show wpAny _ _ (if ((-1 : Int) == 0) = true then _ else _) _ _ st
  rw [if_neg (by decide)]
  refine wpAny_bind (slicePart_none (wpAny_bind (slicePart_none (wpAny_bind (wpAny_pure ?_)))))
  have adj : Builtin.Slice.sliceAdjust none none (-1) (n : Int) = ((n : Int) - 1, -1) := rfl
  have pls : Builtin.Slice.slicePlaces ((n : Int) - 1) (-1) (-1) = n := by
    unfold Builtin.Slice.slicePlaces
    have h1 : ¬ ((-1 : Int) > 0) := by decide
    simp only [h1, if_false, show (- -1 : Int) = 1 by decide, Int.ediv_one]
    split <;> omega
  show wpAny _ _ (match Builtin.Slice.sliceAdjust none none (-1) (n : Int) with | (lo, hi) => pure (lo, (-1 : Int), Builtin.Slice.slicePlaces lo hi (-1))) _ _ st
  rw [adj]
  show wpAny _ _ (pure ((n : Int) - 1, (-1 : Int), Builtin.Slice.slicePlaces ((n : Int) - 1) (-1) (-1))) _ _ st
  rw [pls]
  exact wpAny_pure h
theorem item_back {t sl : Addr} {items : Array Value} {u : Tok} {Z : Value → Shared → Prop} (ht : IsTup st.heap t items) (hs : st.heap.IsSliceOf sl .none .none (.int (-1) u))
    (h : Z (.ref st.heap.objs.size) { st with heap := st.heap.push { cls := .type "tuple", data := .seq items.toList.reverse.toArray } })
    (few : items.size ≤ sizeLine) : wpAny (model prog w) A (getItem (.ref t) (.ref sl)) Z E st := by
  have fits : sizeOk (.seq items.toList.reverse.toArray) := by
    show items.toList.reverse.toArray.size ≤ sizeLine
    rw [List.size_toArray, List.length_reverse, Array.length_toList]
    exact few
  obtain ⟨ob, hob, cob, dob⟩ := id hs
  have ty : st.TypeIs (.ref sl) "slice" := ⟨ob, hob, cob⟩
  unfold getItem
  try with_reducible refine wpAny_holding ?_
  first | refine wpAny_bind (wpAny_pure ?_) | skip
  refine wpAny_bind (wpAny_sequenceKey ht.typeIs (by decide) (wpAny_bind ?_))
  refine wpAny_callSpecial?_slot (name := Str.ofString "__getitem__") ht.typeIs PyProof.Rows.slot_tuple_getitem (wpAny_call_entry PyProof.Rows.slot_tuple_getitem ht.typeIs entry_tuple_getitem ?_ (args_tuple_getitem _ _))
  show wpAny _ _ (Builtin.Tuple.tupleItemsOf (.ref t) >>= _) _ _ st
  refine wpAny_bind (tupleItemsOf_ ht (wpAny_bind (wpAny_typeOf ty ?_)))
  rw [if_pos (by decide)]
  refine wpAny_bind (applied_back hs ?_)
  have no : ¬ ((((items.size : Int) - 1) == 0 && (-1 : Int) == 1 && items.size == items.size) = true) := by
    have q : ((-1 : Int) == 1) = false := by decide
    rw [q, Bool.and_false, Bool.false_and]
    exact Bool.false_ne_true
  show wpAny _ _ (if (((items.size : Int) - 1) == 0 && (-1 : Int) == 1 && items.size == items.size) = true then _ else _) _ _ st
  rw [if_neg no, pick_back]
  first
    | exact wpAny_bind (m := Builtin.Tuple.tupleExact _) (wpAny_newObj_type (wpAny_pure ⟨_, rfl, wpAny_pure h⟩) fits)
    | exact wpAny_bind (m := Builtin.Tuple.tupleExact _) (wpAny_newObj_type (wpAny_bind (wpAny_pure (wpAny_pure ⟨_, rfl, wpAny_pure h⟩))) fits)
    | exact wpAny_bind (wpAny_bind (m := Builtin.Tuple.tupleExact _) (wpAny_newObj_type (wpAny_pure (wpAny_pure ⟨_, rfl, wpAny_pure h⟩)) fits))
    | exact wpAny_bind (wpAny_bind (m := Builtin.Tuple.tupleExact _) (wpAny_newObj_type (wpAny_pure ⟨_, rfl, wpAny_pure h⟩) fits))
end
def tBack (K : PySem.W.Frag) (te : TE) : TE := fun sg G Z => te sg G fun v G1 => ∃ a xs, v = .ref a ∧ SqT K G1 a xs ∧ ∀ p, G1 p = none → Z (.ref p) (upd G1 p (.tup xs.reverse))
theorem pe_back {X : Cx} {e : Expr} {te : TE} {k : Nat} {p1 p2 p3 pos : Pos} (he : PE X e te) :
    PE X (.Subscript e (.Slice none none (some (.UnaryOp .USub (.Constant (.int 1) k p1) p2)) p3) pos) (tBack X.K te) := by
  refine ⟨fun pn st sg G Z J h => Subscript_ (thn (he.run pn st sg G _ J h) ?_)⟩
  rintro _ st1 ⟨_, G1, J1, rel, a, xs, rfl, seq, z⟩
  cases rel
  have minus : PO X (some (.UnaryOp .USub (.Constant (.int 1) k p1) p2)) (tPart (tUn (rU fun i => .int (-i)) (tC (.int 1)))) := po_some (pe_un un_neg pe_int)
  refine wpAny_Slice (thn (po_none.run pn st1 sg G1 (fun o G2 => o = none ∧ G1 = G2) J1 ⟨rfl, rfl⟩) ?_)
  rintro vl st2 ⟨_, _, J2, pl, rfl, rfl⟩
  refine thn (po_none.run pn st2 sg _ (fun o G3 => o = none ∧ G1 = G3) J2 ⟨rfl, rfl⟩) ?_
  rintro vu st3 ⟨_, _, J3, pu, rfl, rfl⟩
  refine thn (minus.run pn st3 sg _ (fun o G4 => o = some (-1) ∧ G1 = G4) J3 ⟨1, rfl, -1, rfl, rfl, rfl⟩) ?_
  rintro vs st4 ⟨_, _, J4, pm, rfl, rfl⟩
  cases pl
  cases pu
  cases pm
  rename_i u
  let ob : Obj := { cls := .type "slice", data := .fields #[.none, .none, .int (-1) u] }
  have J5 : Inv X pn sg G1 { st4 with heap := st4.heap.push ob } := J4.kept (t' := st4.toks) fun b o q => Heap.get?_push_of_some _ q
  obtain ⟨its, rel, tup, few⟩ := J5.tuple seq
  have len := rel.length
  show wpAny (model X.prog X.w) X.A (subscriptTail e (.Slice none none (some (.UnaryOp .USub (.Constant (.int 1) k p1) p2)) p3) (.ref a) (.ref st4.heap.objs.size)) (EP X pn sg Z) X.xe { st4 with heap := st4.heap.push ob }
  refine tail_any (ops := [.ref a, .ref st4.heap.objs.size]) tup.typeIs PyProof.Rows.slot_tuple_getitem.lookup ?_ (by with_unfolding_all rfl)
  refine item_back tup (Heap.IsSliceOf.new _ .none .none (.int (-1) u)) ?_ (by rw [List.size_toArray]; omega)
  refine ⟨.ref _, _, J5.laid (t' := st4.toks) (o := .tup xs.reverse) (fun b o q => Heap.get?_push_of_some _ q) (Nat.le_refl _) ?_, rfl, z _ (J5.hok.fresh (Nat.le_refl _))⟩
  exact ⟨by rw [List.length_reverse]; exact few, _, rel.reverse, ⟨_, Heap.get?_push_size _ rfl, rfl, 0, rfl⟩⟩
end Fs

namespace Fs
open PySem PySem.Spec PyProof.Rows L2
/-! ### data that can be compared and shown -/
structure Fine (d : PyData) (deep wide : Nat) : Prop where
  lay : d.canLay0 = true
  sho : d.showable = true
  int13 : d.intsShort 13 = true
  dp : d.depth ≤ deep
  wt : d.weight ≤ wide
structure FineAll (ds : List PyData) (deep wide : Nat) : Prop where
  lay : PyData.canLayAll0 ds = true
  sho : PyData.showableAll ds = true
  int13 : PyData.intsShortAll 13 ds = true
  dp : PyData.depthAll ds ≤ deep
  wt : PyData.weightAll ds ≤ wide
theorem FineAll.nil {a : Nat} : FineAll [] a 0 := ⟨rfl, rfl, rfl, Nat.zero_le _, Nat.le_refl _⟩
theorem FineAll.cons {d : PyData} {ds : List PyData} {a u v : Nat} (h : Fine d a u) (t : FineAll ds a v) : FineAll (d :: ds) a (u + 1 + v) := by
  refine ⟨?_, ?_, ?_, ?_, ?_⟩
  · simp only [PyData.canLayAll0, h.lay, t.lay, Bool.and_self]
  · simp only [PyData.showableAll, h.sho, t.sho, Bool.and_self]
  · simp only [PyData.intsShortAll, h.int13, t.int13, Bool.and_self]
  · have h1 := h.dp
    have h2 := t.dp
    simp only [PyData.depthAll]
    omega
  · have h1 := h.wt
    have h2 := t.wt
    simp only [PyData.weightAll]
    omega
theorem FineAll.of {ds : List PyData} {a u n : Nat} (h : ∀ d ∈ ds, Fine d a u) (few : ds.length ≤ n) : FineAll ds a ((u + 1) * n) := by
  have all : FineAll ds a ((u + 1) * ds.length) := by
    clear few
    induction ds with
    | nil => exact FineAll.nil
    | cons d r ih =>
      have q := FineAll.cons (h d List.mem_cons_self) (ih fun x hx => h x (List.mem_cons_of_mem _ hx))
      have e : (u + 1) * (d :: r).length = u + 1 + (u + 1) * r.length := by
        rw [List.length_cons, Nat.mul_succ, Nat.add_comm]
      rw [e]
      exact q
  exact ⟨all.lay, all.sho, all.int13, all.dp, Nat.le_trans all.wt (Nat.mul_le_mul_left _ few)⟩
theorem FineAll.list {ds : List PyData} {a u : Nat} (h : FineAll ds a u) : Fine (.list ds) (a + 1) u := by
  refine ⟨h.lay, h.sho, h.int13, ?_, h.wt⟩
  have := h.dp
  simp only [PyData.depth]
  omega
theorem FineAll.tup {ds : List PyData} {a u : Nat} (h : FineAll ds a u) : Fine (.tuple ds) (a + 1) u := by
  refine ⟨h.lay, h.sho, h.int13, ?_, h.wt⟩
  have := h.dp
  simp only [PyData.depth]
  omega
theorem Fine.mono {d : PyData} {a u a' u' : Nat} (h : Fine d a u) (ha : a ≤ a') (hu : u ≤ u') : Fine d a' u' := ⟨h.lay, h.sho, h.int13, Nat.le_trans h.dp ha, Nat.le_trans h.wt hu⟩
theorem Fine.str {z : Str} {n : Nat} (h : PyData.canLay0 (.str z) = true) (few : z.length ≤ n) : Fine (.str z) 0 n := ⟨h, rfl, rfl, Nat.le_refl _, few⟩
theorem Fine.bool (b : Bool) : Fine (.bool b) 0 0 := ⟨rfl, rfl, rfl, Nat.le_refl _, Nat.le_refl _⟩
theorem Fine.shaped {d : PyData} {a u : Nat} (h : Fine d a u) (ha : a ≤ 64) : SeqAt.shaped d = true := by
  show (d.canLay0 && decide (d.depth ≤ 64)) = true
  rw [h.lay, decide_eq_true (Nat.le_trans h.dp ha)]
  rfl
theorem Fine.fits {d : PyData} {a u : Nat} (h : Fine d a u) (ha : a ≤ 64) (hu : u ≤ 1000000) : d.shown.length ≤ sizeLine := by
  refine PyData.shown_fits_of_layable0 (B := 13) (by decide) (by decide) ?_ h.int13
  show (d.canLay0 && decide (d.depth ≤ 64) && decide (d.weight ≤ 2 ^ 20)) = true
  have w : d.weight ≤ 2 ^ 20 := Nat.le_trans h.wt (Nat.le_trans hu (by decide))
  rw [h.lay, decide_eq_true (Nat.le_trans h.dp ha), decide_eq_true w]
  rfl
/-! ### counting -/
theorem sum_count {α : Type} [DecidableEq α] {xs : List α} (nd : xs.Nodup) {a : α} (ha : a ∈ xs) : (xs.map fun o => if o = a then 1 else 0).sum = 1 := by
  induction xs with
  | nil => exact (List.not_mem_nil ha).elim
  | cons x r ih =>
    obtain ⟨h1, h2⟩ := List.nodup_cons.mp nd
    rw [List.map_cons, List.sum_cons]
    by_cases e : x = a
    · subst e
      have z : (r.map fun o => if o = x then 1 else 0).sum = 0 := by
        have all : ∀ l : List α, x ∉ l → (l.map fun o => if o = x then 1 else 0).sum = 0 := by
          intro l hl
          induction l with
          | nil => rfl
          | cons y s ih2 =>
            rw [List.map_cons, List.sum_cons, ih2 fun m => hl (List.mem_cons_of_mem _ m), if_neg (show ¬ (y = x) from fun q => hl (q ▸ List.mem_cons_self))]
        exact all r h1
      rw [z, if_pos rfl]
    · rcases List.mem_cons.mp ha with q | q
      · exact absurd q.symm e
      · rw [if_neg e, ih h2 q]
theorem sum_add {α : Type} (f g : α → Nat) : ∀ xs : List α, (xs.map fun o => f o + g o).sum = (xs.map f).sum + (xs.map g).sum
  | [] => rfl
  | x :: r => by
    have ih := sum_add f g r
    simp only [List.map_cons, List.sum_cons, ih]
    omega
theorem filter_or {α : Type} (p q : α → Bool) (dis : ∀ x, p x = true → q x = true → False) : ∀ xs : List α, (xs.filter fun x => p x || q x).length = (xs.filter p).length + (xs.filter q).length
  | [] => rfl
  | x :: r => by
    have ih := filter_or p q dis r
    have d := dis x
    cases hp : p x <;> cases hq : q x
    · simp [List.filter_cons, hp, hq, ih]
    · simp [List.filter_cons, hp, hq, ih]
      omega
    · simp [List.filter_cons, hp, hq, ih]
      omega
    · exact (d hp hq).elim
theorem filter_one {α : Type} [DecidableEq α] {xs : List α} (nd : xs.Nodup) {b : α} (hb : b ∈ xs) : (xs.filter fun x => decide (x = b)).length = 1 := by
  induction xs with
  | nil => exact (List.not_mem_nil hb).elim
  | cons x r ih =>
    obtain ⟨h1, h2⟩ := List.nodup_cons.mp nd
    by_cases e : x = b
    · subst e
      have z : r.filter (fun y => decide (y = x)) = [] := List.filter_eq_nil_iff.mpr fun y hy q => h1 (of_decide_eq_true q ▸ hy)
      simp [List.filter_cons, z]
    · rcases List.mem_cons.mp hb with q | q
      · exact absurd q.symm e
      · simp [List.filter_cons, e, ih h2 q]
/-- all pairs together, counted by their first one -/
theorem count_pairs {α : Type} [DecidableEq α] {xs : List α} (nd : xs.Nodup) : ∀ {T : List (α × α)}, T.Nodup → (∀ e ∈ T, e.1 ∈ xs ∧ e.2 ∈ xs) →
    (xs.map fun o => (xs.filter fun y => decide ((o, y) ∈ T)).length).sum = T.length
  | [], _, _ => by
    have z : ∀ l : List α, (l.map fun o => (xs.filter fun y => decide ((o, y) ∈ ([] : List (α × α)))).length).sum = 0 := by
      intro l
      induction l with
      | nil => rfl
      | cons a r ih =>
        rw [List.map_cons, List.sum_cons, ih]
        simp
    exact z xs
  | (a, b) :: T, nt, mem => by
    obtain ⟨n1, n2⟩ := List.nodup_cons.mp nt
    have ih := count_pairs nd n2 fun e he => mem e (List.mem_cons_of_mem _ he)
    obtain ⟨ma, mb⟩ := mem (a, b) List.mem_cons_self
    have each : ∀ o, (xs.filter fun y => decide ((o, y) ∈ (a, b) :: T)).length = (if o = a then 1 else 0) + (xs.filter fun y => decide ((o, y) ∈ T)).length := by
      intro o
      by_cases e : o = a
      · subst e
        rw [if_pos rfl, ← filter_one nd mb, ← filter_or]
        · congr 1
          apply List.filter_congr
          intro y _
          simp
        · intro x h1 h2
          have e := of_decide_eq_true h1
          subst e
          exact n1 (of_decide_eq_true h2)
      · rw [if_neg e, Nat.zero_add]
        congr 1
        apply List.filter_congr
        intro y _
        simp [e]
    rw [show (fun o => (xs.filter fun y => decide ((o, y) ∈ (a, b) :: T)).length) = fun o => (if o = a then 1 else 0) + (xs.filter fun y => decide ((o, y) ∈ T)).length from funext each, sum_add, sum_count nd ma, ih, List.length_cons]
    omega
end Fs

namespace Fs
open PySem PySem.Spec PyProof.Rows PySem.W L2
section
variable {prog : Program} {w : World} {A : Around} {E : Value → Shared → Prop} {st : Shared} {K : PySem.W.Frag} {x C f : Addr} {ox : Obj} {od : Option Obj}
theorem ne_body {b : Value} {Z : Value → Shared → Prop} (hu : A.units + 1 < cLine) (X : K.In st.heap) (I : PySem.W.InstAt st.heap x ox C od) (mk : PySem.W.makesIn K C = true)
    (he : PySem.W.findIn K (.ref C) "__eq__" = some (some (.ref f))) (hf : PySem.W.isFn K (.ref f) = true)
    (h : wpAny (model prog w) A.in1 (call (.ref f) [.ref x, b]) (fun v s' => ∃ k, v = .bool k ∧ Z (.bool !k) s') E st) :
    wpAny (model prog w) A (call (.builtin "object.__ne__") [.ref x, b]) Z E st := by
  have top : Looks (model prog w) st.heap (isInstance (.ref x) (.type "object")) true := I.type.andThen (PySem.W.makes_of X mk).top
  refine wpAny_call (codeAny_call_builtin PySem.F.cmp_object.ne.plain PySem.F.cmpEntry_ne (PySem.W.check_slot PySem.F.cmpKind_ne PySem.F.cmpSplit_ne top (PySem.F.cmpArgs_ne _ _) ?_))
  unfold Builtin.«object.__ne__»
  have call_ : ∀ {Y : Option Value → Shared → Prop}, (∀ k s', Z (.bool !k) s' → Y (some (.bool k)) s') → wpAny (model prog w) A.in1 (callSpecialIfBound? (.ref x) "__eq__" [b]) Y E st := fun {Y} y =>
    PySem.W.ifBound_K X I he hf (wpAny_mono h (fun v s' ⟨k, e, z⟩ => by subst e; exact y k s' z) fun _ _ q => q)
  repeat (first | with_reducible refine wpAny_cRoomFor hu ?_ | with_reducible refine call_ (fun k s' z => ?_) | wp_step)
  exact z
theorem ne_try {b : Value} {Z : Option Value → Shared → Prop} (hu : A.units + 1 < cLine) (X : K.In st.heap) (I : PySem.W.InstAt st.heap x ox C od) (mk : PySem.W.makesIn K C = true)
    (hn : PySem.W.findIn K (.ref C) "__ne__" = some (some (.builtin "object.__ne__"))) (he : PySem.W.findIn K (.ref C) "__eq__" = some (some (.ref f))) (hf : PySem.W.isFn K (.ref f) = true)
    (h : wpAny (model prog w) A.in1 (call (.ref f) [.ref x, b]) (fun v s' => ∃ k, v = .bool k ∧ Z (some (.bool !k)) s') E st) :
    wpAny (model prog w) A (tryCompare (.ref x) "__ne__" b) Z E st := by
  have one : wpAny (model prog w) A (callSpecialIfBound? (.ref x) "__ne__" [b]) (fun r s' => ∃ k, r = some (.bool !k) ∧ Z (some (.bool !k)) s') E st := by
    simp only [callSpecialIfBound?, bindSpecialIfBound?]
    refine wpAny_holding (wpAny_bind (wpAny_bind (wpAny_bind (I.type.here ((PySem.W.looks_findIn X hn).here ?_)))))
    simp only [PySem.F.cmp_object.ne.bind]
    have last : wpAny (model prog w) A (call (.builtin "object.__ne__") ([.ref x] ++ [b]) >>= fun v => pure (some v)) (fun r s' => ∃ k, r = some (.bool !k) ∧ Z (some (.bool !k)) s') E st :=
      wpAny_bind (ne_body (Z := fun v s' => wpAny (model prog w) A (pure (some v)) (fun r s' => ∃ k, r = some (.bool !k) ∧ Z (some (.bool !k)) s') E s') hu X I mk he hf
        (wpAny_mono h (fun v s' ⟨k, e, z⟩ => ⟨k, e, wpAny_pure ⟨k, rfl, z⟩⟩) fun _ _ q => q))
    refine wpAny_bind (wpAny_askSetting (wpAny_ite ?_))
    split
    · exact wpAny_bind (wpAny_pure (wpAny_pure (by exact last)))
    · exact wpAny_tryCatch (wpAny_bind (wpAny_pure (wpAny_pure (by exact last))))
  unfold tryCompare
  refine wpAny_bind (wpAny_mono one (fun r s' q => ?_) fun _ _ q => q)
  obtain ⟨k, rfl, z⟩ := q
  exact wpAny_pure z
theorem ne_own {b tb : Value} {Z : Value → Shared → Prop} (hu : A.units + 1 < cLine) (X : K.In st.heap) (I : PySem.W.InstAt st.heap x ox C od) (mk : PySem.W.makesIn K C = true)
    (hb : Looks (model prog w) st.heap (typeOf b) tb) (nf : PySem.W.notFirst K C tb = true)
    (hn : PySem.W.findIn K (.ref C) "__ne__" = some (some (.builtin "object.__ne__"))) (he : PySem.W.findIn K (.ref C) "__eq__" = some (some (.ref f))) (hf : PySem.W.isFn K (.ref f) = true)
    (h : wpAny (model prog w) A.in1 (call (.ref f) [.ref x, b]) (fun v s' => ∃ k, v = .bool k ∧ Z (.bool !k) s') E st) :
    wpAny (model prog w) A (richCompare .NotEq (.ref x) b) Z E st := by
  have one : wpAny (model prog w) A (tryCompare (.ref x) "__ne__" b) (fun r s' => ∃ v, r = some v ∧ Z v s') E st :=
    ne_try hu X I mk hn he hf (wpAny_mono h (fun v s' ⟨k, e, z⟩ => ⟨k, e, _, rfl, z⟩) fun _ _ q => q)
  unfold richCompare
  simp only [oneThing_ref]
  refine wpAny_holding (wpAny_bind (wpAny_cRoomFor (by omega) (wpAny_bind (I.type.here (wpAny_bind (hb.here ?_))))))
  split
  · rename_i q
    have e : PySem.W.subIn K tb (.ref C) = some false := by
      rcases Bool.or_eq_true_iff.mp nf with e | e
      · rw [beq_iff_eq.mp e] at q
        simp at q
      · exact beq_iff_eq.mp e
    refine wpAny_bind ((PySem.W.looks_subIn X e).here ?_)
    simp only [Bool.false_eq_true, if_false]
    refine wpAny_bind (wpAny_mono one (fun r s' z => ?_) fun _ _ q => q)
    obtain ⟨v, rfl, z⟩ := z
    exact wpAny_pure z
  · refine wpAny_bind (wpAny_pure ?_)
    simp only [Bool.false_eq_true, if_false]
    refine wpAny_bind (wpAny_mono one (fun r s' z => ?_) fun _ _ q => q)
    obtain ⟨v, rfl, z⟩ := z
    exact wpAny_pure z
end
/-! ### an own method, run a few calls deeper -/
section
variable {X : Cx} {ex : CXT} {n : Nat} {f C : Addr} {fd : FuncData} {ps : List Str} {sp : Sp} {E : XK}
theorem run_deep {A : Around} {pn : List (Addr × Obj)} {sg : L2.St} {G : Hp} {st : Shared} {Z : VK} {us : List Value} {vs : List V} (F : FnOk X.prog X.w X.K X.mg X.base ex n f fd ps sp) (hr : Room n A) (fr : A.frames = X.A.frames)
    (hb : Binds X.K fd ps []) (hx : Passes ex X E) (J : Inv X pn sg G st) (rel : Vals vs us) (want : sp vs G Z E) :
    wpAny (model X.prog X.w) A (call (.ref f) us) (EP X pn sg Z) X.xe st := by
  have sz : us.length = ps.length := rel.length.symm.trans (F.len _ _ _ _ want)
  have bind := hb st us J.kIn (by rw [List.append_nil]; exact sz)
  rw [List.append_nil] at bind
  have e := J.env0
  have env : Env0 X.prog X.w X.K X.mg X.base A X.stack st G := ⟨fr.trans e.frames, e.mod, e.bs, e.bsz, e.funs, e.frf, e.hok, e.bare⟩
  refine wpAny_call (codeAny_mono (F.run A X.stack st G ⟨us, []⟩ us vs Z E hr env bind rel want) fun r st2 fin => ?_)
  cases r with
  | error er => exact hx pn sg G st er st2 J fin
  | ok fl =>
    cases fl with
    | ret u => exact J.after fin
    | next => exact fin.elim
    | brk => exact fin.elim
    | cont => exact fin.elim
/-- x == y, x != y, x of an own class with its own == -/
def eqOwn (K : PySem.W.Frag) (C : Addr) (sp : Sp) (E : XK) (neg : Bool) : R2 := fun p q G Z => ∃ a dx fs t, p = .ref a ∧ G a = some (.ins C dx fs) ∧ TyX K G q t ∧ PySem.W.notFirst K C t = true ∧
  sp [p, q] G (fun v G' => ∃ k, v = .bl k ∧ Z (.bl (k != neg)) G') E
theorem op_eqOwn (F : FnOk X.prog X.w X.K X.mg X.base ex n f fd ps sp) (hs : PySem.W.findIn X.K (.ref C) "__eq__" = some (some (.ref f))) (hf : PySem.W.isFn X.K (.ref f) = true) (hb : Binds X.K fd ps []) (hx : Passes ex X E) (hr : Room n X.A) :
    OpR X (compareOp .Eq) (eqOwn X.K C sp E false) := by
  intro pn st sg G p q vp vq Z J rp rq ⟨a, dx, fs, t, ea, ha, ty, nf, want⟩
  subst ea
  obtain rfl : vp = Value.ref a := rp
  obtain ⟨mA, O, _⟩ := ins_get J.hok ha
  obtain ⟨od, I, _⟩ := O.look
  obtain ⟨m, fr⟩ := J.fr
  obtain ⟨Pt, kit, hp, _⟩ := kit_of J rq ty
  refine PySem.W.cmp_K (op := .Eq) (tb := t) hr.units0 fr J.ok.mod.kin I (kit.ty _ _ J.kIn hp) nf hs hf ?_
  refine wpAny_mono (run_deep (vs := [V.ref a, q]) F hr rfl hb hx J (.cons rfl (.cons rq .nil)) want) (fun u st2 fin => ?_) fun _ _ z => z
  obtain ⟨v, G2, J2, rv, k, rfl, z⟩ := fin
  obtain rfl : u = Value.bool k := rv
  exact ⟨_, G2, J2, (by cases k <;> rfl), z⟩
theorem op_neOwn (F : FnOk X.prog X.w X.K X.mg X.base ex n f fd ps sp) (mk : PySem.W.makesIn X.K C = true) (hn : PySem.W.findIn X.K (.ref C) "__ne__" = some (some (.builtin "object.__ne__")))
    (hs : PySem.W.findIn X.K (.ref C) "__eq__" = some (some (.ref f))) (hf : PySem.W.isFn X.K (.ref f) = true) (hb : Binds X.K fd ps []) (hx : Passes ex X E) (hr : Room (n + 1) X.A) :
    OpR X (compareOp .NotEq) (eqOwn X.K C sp E true) := by
  intro pn st sg G p q vp vq Z J rp rq ⟨a, dx, fs, t, ea, ha, ty, nf, want⟩
  subst ea
  obtain rfl : vp = Value.ref a := rp
  obtain ⟨mA, O, _⟩ := ins_get J.hok ha
  obtain ⟨od, I, _⟩ := O.look
  obtain ⟨Pt, kit, hp, _⟩ := kit_of J rq ty
  show wpAny _ _ (richCompare .NotEq (.ref a) vq) _ _ st
  refine ne_own (by have := hr.un; omega) J.kIn I mk (kit.ty _ _ J.kIn hp) nf hn hs hf ?_
  refine wpAny_mono (run_deep (vs := [V.ref a, q]) F hr.in1 rfl hb hx J (.cons rfl (.cons rq .nil)) want) (fun u st2 fin => ?_) fun _ _ z => z
  obtain ⟨v, G2, J2, rv, k, rfl, z⟩ := fin
  obtain rfl : u = Value.bool k := rv
  exact ⟨k, rfl, _, G2, J2, (by cases k <;> rfl), z⟩
/-- str(x) by an own __str__ -/
def strOwn (C : Addr) (sp : Sp) (E : XK) : List V → Hp → VK → Prop := fun xs G Z => ∃ a dx fs, xs = [.ref a] ∧ G a = some (.ins C dx fs) ∧ sp [.ref a] G (fun v G' => ∃ y, v = .str y ∧ Z (.str y) G') E
theorem call_strOwn (F : FnOk X.prog X.w X.K X.mg X.base ex n f fd ps sp) (hs : PySem.W.findIn X.K (.ref C) "__str__" = some (some (.ref f))) (hf : PySem.W.isFn X.K (.ref f) = true) (hb : Binds X.K fd ps []) (hx : Passes ex X E) (hr : Room (n + 2) X.A) :
    CallR X (.type "str") (strOwn C sp E) := by
  intro pn st sg G xs us Z J rel ⟨a, dx, fs, e, ha, want⟩
  subst e
  rw [Vals.ref1 rel]
  obtain ⟨mA, O, _⟩ := ins_get J.hok ha
  obtain ⟨od, I, _⟩ := O.look
  refine PySem.W.kso_call (by have := hr.un; show X.A.units + 1 + 1 < cLine; omega) J.kIn I hs hf ?_
  refine wpAny_mono (run_deep (vs := [V.ref a]) F hr.in1.in1 rfl hb hx J (.cons rfl .nil) want) (fun u st2 fin => ?_) fun _ _ z => z
  obtain ⟨v, G2, J2, rv, y, rfl, z⟩ := fin
  obtain ⟨t, rfl⟩ := rv
  exact ⟨.str y, G2, J2, ⟨t, rfl⟩, z⟩
end
end Fs

namespace Fs
open PySem PySem.Spec PyProof.Rows L2
/-! ### a, *b = a list -/
section
variable {prog : Program} {w : World} {A : Around} {E : Value → Shared → Prop} {st : Shared}
theorem items_star {l : Addr} {u : Value} {us : List Value} {Z : List Value → Shared → Prop} (calm : A.handled = none) (at_ : st.heap.IsList l (u :: us).toArray) (few : us.length ≤ 16000)
    (h : ∀ (h' : Heap) (tk : Nat), (∀ b o, st.heap.get? b = some o → h'.get? b = some o) → Z [u, .ref h'.objs.size] { st with heap := h'.push { cls := .type "list", data := .seq us.toArray }, toks := tk }) :
    wpAny (model prog w) A (unpackItems (.ref l) 2 (some 1)) Z E st := by
  have far : l ≠ st.heap.objs.size := by
    obtain ⟨o, ho, _⟩ := at_
    exact Nat.ne_of_lt (Heap.lt_size ho)
  have size : (u :: us).toArray.size = us.length + 1 := by rw [List.size_toArray, List.length_cons]
  unfold unpackItems
  refine wpAny_bind ?_
  unfold notIterableAtAll
  refine wpAny_bind (wpAny_specialOf at_.typeIs slot_list_iter.lookup (wpAny_pure ?_))
  simp only [Bool.false_eq_true, if_false]
  refine wpAny_bind (wpAny_holding (wpAny_pyIter_list at_ ?_))
  refine wpAny_bind (wpAny_holding (PySem.W.kun_draw far 1 0 _ _ ⟨_, Heap.get?_push_size _ rfl, rfl, rfl⟩ (at_.push _) (by omega) fun h1 it1 same1 => ?_))
  have at1 : h1.IsList l (u :: us).toArray := (at_.push _).extBut same1.extBut far
  have lt1 : st.heap.objs.size < h1.objs.size := by
    obtain ⟨o, ho, _⟩ := it1
    exact Heap.lt_size ho
  have lt2 : l < h1.objs.size := by
    obtain ⟨o, ho, _⟩ := at1
    exact Heap.lt_size ho
  have e1 : (List.drop 0 (u :: us).toArray.toList).take 1 = [u] := rfl
  rw [e1, if_neg (by show ¬ (1 < 1); omega)]
  refine wpAny_bind (wpAny_holding (PySem.W.kun_collect (s := { st with heap := h1 }) (T := "list_iterator") (k := 1) (.inr (.inr (.inl rfl))) (Walks.list (A := A.in1) calm st.heap.objs.size l far (u :: us).toArray) (fun j x y => y.1.typeIs) (by omega) ⟨it1, at1⟩ lt1 lt2 (fun h2 tk same2 => ?_)
    (by rw [sizeLine_eq]; omega)))
  have e2 : List.drop 1 (u :: us).toArray.toList = us := rfl
  rw [e2]
  show wpAny _ _ (if us.length < 0 then _ else _) _ _ _
  rw [if_neg (by omega)]
  show wpAny _ _ (newList (us.take (us.length - 0)) >>= fun d => pure ([u] ++ [d] ++ us.drop (us.length - 0))) _ _ _
  rw [Nat.sub_zero, List.take_length, List.drop_length]
  refine wpAny_bind (wpAny_newList (wpAny_pure (h h2 tk fun b o q => ?_)) (by rw [sizeLine_eq]; omega))
  have nb := Nat.ne_of_lt (Heap.lt_size q)
  exact same2 b o nb (same1.extBut b o nb (Heap.get?_push_of_some _ q))
end
def gStar (K : PySem.W.Frag) (t1 t2 : TG) : TG := fun v sg G Z => ∃ a x xs, v = .ref a ∧ SqL K G a (x :: xs) ∧ xs.length ≤ 16000 ∧ ∀ D, G D = none → t1 x sg (upd G D (.lst xs)) fun sg' G' => t2 (.ref D) sg' G' Z
theorem pg_star {X : Cx} {e1 e2 : Expr} {t1 t2 : TG} {k : Nat} {p1 pos : Pos} (hc : X.calm = true) (h1 : PG X e1 t1) (h2 : PG X e2 t2)
    (hl : assignEach [e1, .Starred e2 p1] X.env = [(false, assign e1 X.env), (true, assign e2 X.env)] := by rfl) : PG X (.Tuple [e1, .Starred e2 p1] k pos) (gStar X.K t1 t2) := by
  refine ⟨fun pn st sg G v u Z J rel want => ?_⟩
  obtain ⟨a, x, xs, rfl, seq, few, want⟩ := want
  cases rel
  obtain ⟨its, rv, pl, _⟩ := J.list seq
  cases rv with
  | @cons _ u _ us ru rus =>
  rw [PyProof.Rows.assign_Tuple]
  refine wpAny_bind (wpAny_standAt ?_)
  unfold unpack
  rw [hl]
  have lenU : us.length = xs.length := rus.length.symm
  refine wpAny_bind (wpAny_holding (items_star (J.ok.hd hc) pl.isList (by omega) fun h' tk kp => ?_))
  have J1 : Inv X pn sg G { st with heap := h', toks := tk } := J.kept kp
  have J2 := J1.lnew (t' := tk) rus (by rw [sizeLine_eq]; omega)
  show wpAny _ _ (assignInOrder [assign e1 X.env, assign e2 X.env] [u, .ref h'.objs.size]) _ _ _
  refine assignInOrder_cons (thn (h1.run pn _ sg _ x u _ J2 ru (want _ J1.fresh)) fun _ st3 ⟨sg3, G3, J3, want3⟩ => ?_)
  exact assignInOrder_cons (thn (h2.run pn st3 sg3 G3 (.ref h'.objs.size) _ _ J3 rfl want3) fun _ st4 fin => assignInOrder_nil fin)
/-! ### a class, called by a local name -/
def tMakeL (i : Nat) (C : Addr) (sp : Sp) (dvs : List V) (E : XK) (t : TA) : TE := fun sg G Z => sg[i]? = some (some (.ref C)) ∧ tMake C sp dvs E t sg G Z
theorem pe_makeL {X : Cx} {ex : CXT} {n i : Nat} {f C : Addr} {fd : FuncData} {ps : List Str} {sp : Sp} {dvs : List V} {ds : List Value} {E : XK} {x : Str} {p pos : Pos} {e : Expr} {es : List Expr} {t : TA}
    (M : Mk X.K C f) (F : FnOk X.prog X.w X.K X.mg X.base ex n f fd ps sp) (hr : Room (n + 1) X.A) (hN : X.N[i]? = some x) (hv : Vis X.env.scope x) (hb : Binds X.K fd ps ds) (hd : Vals dvs ds) (hx : Passes ex X E) (ha : PA X (e :: es) t)
    (hdb : (x == ("__debug__" : Str)) = false := by decide) (hcd : (x == ("__classdict__" : Str)) = false := by decide)
    (he : starEach (e :: es) X.env = (false, eval e X.env) :: starEach es X.env := by rfl) (hpl : (backTo pos (starEach es X.env)).any (·.1) = false := by rfl) :
    PE X (.Call (.Name x p) (e :: es) [] pos) (tMakeL i C sp dvs E t) := by
  refine ⟨fun pn st sg G Z J want => ?_⟩
  obtain ⟨here, want⟩ := want
  refine wpAny_Call_Name_kw (thn ((pe_var (pos := p) hN hv hdb hcd).run pn st sg G (fun v G1 => v = .ref C ∧ G = G1) J ⟨.ref C, here, rfl, rfl⟩) fun u st1 ⟨v, G1, J1, rel, q⟩ => ?_)
  obtain ⟨rfl, rfl⟩ := q
  cases rel
  refine PySem.W.callWith_K (h₀ := X.base) J1.ok.mod.kin M.kp (thn (ha.run pos pn st1 sg _ _ J1 want) fun us st2 ⟨vs, G2, J2, r, q⟩ => ⟨J2.kIn, ?_⟩) he hpl
  exact run_make M F hr hb hd hx J2 r q
/-! ### texts: pages -/
def nlS : Str := "\n"
def spS : Str := " "
def toS : Str := " > "
def lineT (e : Str × Str) : Str := Txt.join toS [e.1, e.2]
def pageL (xs : List Str) (ts : List (Str × Str)) : List Str := Txt.join spS xs :: ts.map lineT
def pageT (xs : List Str) (ts : List (Str × Str)) : Str := Txt.join nlS (pageL xs ts)
end Fs

namespace Fs
open PySem PySem.Spec PyProof.Rows L2
/-! ### len(x), bool(x) by an own __len__ -/
theorem len_body {prog : Program} {w : World} {A : Around} {E : Value → Shared → Prop} {st : Shared} {K : PySem.W.Frag} {x C f : Addr} {ox : Obj} {od : Option Obj} {Y : Value → Shared → Prop} (Xk : K.In st.heap) (I : PySem.W.InstAt st.heap x ox C od)
    (hs : PySem.W.findIn K (.ref C) "__len__" = some (some (.ref f))) (hf : PySem.W.isFn K (.ref f) = true) (h : wpAny (model prog w) A (call (.ref f) [.ref x]) (PySem.W.LenBack Y) E st) :
    wpAny (model prog w) A (Builtin.«len» ⟨[.ref x], []⟩) (fun fin s' => ∃ v, fin = .done (.ret v) ∧ Y v s') E st := by
  unfold Builtin.«len»
  refine wpAny_bind (m := oneArg "len" _) (wpAny_pure ?_)
  refine wpAny_bind (m := callSpecial? (.ref x) (Str.ofString "__len__")) (PySem.W.special_fn Xk I hs (beq_iff_eq.mp hf) (wpAny_mono h (fun r s' back => ?_) fun _ _ z => z))
  cases r with
  | int k u =>
    obtain ⟨⟨k0, k1⟩, y⟩ := back
    refine wpAny_bind (wpAny_holding (wpAny_pure ?_))
    refine wpAny_bind (wpAny_letGo ?_)
    show wpAny _ _ (if k < 0 then _ else _) _ _ _
    rw [if_neg (by omega)]
    show wpAny _ _ (if k ≥ 2 ^ 63 then _ else _) _ _ _
    rw [if_neg (by omega)]
    exact wpAny_bind (wpAny_mkInt (wpAny_pure ⟨_, rfl, y⟩))
  | _ => exact back.elim
section
variable {X : Cx} {ex : CXT} {n : Nat} {f C : Addr} {fd : FuncData} {ps : List Str} {sp : Sp} {E : XK}
def lenOwn (C : Addr) (sp : Sp) (E : XK) : List V → Hp → VK → Prop := fun xs G Z => ∃ a dx fs, xs = [.ref a] ∧ G a = some (.ins C dx fs) ∧ sp [.ref a] G (fun v G' => ∃ k : Int, v = .int k ∧ (0 ≤ k ∧ k < 2 ^ 63) ∧ Z (.int k) G') E
theorem len_run {A : Around} {pn : List (Addr × Obj)} {sg : L2.St} {G : Hp} {st : Shared} {Z : VK} {a dx : Addr} {fs : List (Str × V)} (F : FnOk X.prog X.w X.K X.mg X.base ex n f fd ps sp) (hs : PySem.W.findIn X.K (.ref C) "__len__" = some (some (.ref f))) (hf : PySem.W.isFn X.K (.ref f) = true)
    (hb : Binds X.K fd ps []) (hx : Passes ex X E) (hr : Room (n + 1) A) (fr : A.frames = X.A.frames) (J : Inv X pn sg G st) (ha : G a = some (.ins C dx fs)) (want : sp [.ref a] G (fun v G' => ∃ k : Int, v = .int k ∧ (0 ≤ k ∧ k < 2 ^ 63) ∧ Z (.int k) G') E) :
    wpAny (model X.prog X.w) A (call (.builtin "len") [.ref a]) (EP X pn sg Z) X.xe st := by
  obtain ⟨mA, O, _⟩ := ins_get J.hok ha
  obtain ⟨od, I, _⟩ := O.look
  obtain ⟨m, frm⟩ := J.fr
  refine PySem.W.len_K frm J.ok.mod.kin I hs hf ?_
  refine wpAny_mono (run_deep (vs := [V.ref a]) F hr.in1 (by exact fr) hb hx J (.cons rfl .nil) want) (fun u st2 fin => ?_) fun _ _ z => z
  obtain ⟨v, G2, J2, rv, k, rfl, hk, z⟩ := fin
  obtain ⟨t, rfl⟩ := rv
  exact ⟨hk, .int k, G2, J2.tok _, ⟨_, rfl⟩, z⟩
theorem call_lenOwn (F : FnOk X.prog X.w X.K X.mg X.base ex n f fd ps sp) (hs : PySem.W.findIn X.K (.ref C) "__len__" = some (some (.ref f))) (hf : PySem.W.isFn X.K (.ref f) = true) (hb : Binds X.K fd ps []) (hx : Passes ex X E) (hr : Room (n + 1) X.A) :
    CallR X (.builtin "len") (lenOwn C sp E) := by
  intro pn st sg G xs us Z J rel ⟨a, dx, fs, e, ha, want⟩
  subst e
  rw [Vals.ref1 rel]
  exact len_run F hs hf hb hx hr rfl J ha want
theorem truthy_own {A : Around} {pn : List (Addr × Obj)} {sg : L2.St} {G : Hp} {st : Shared} {Z : Bool → Shared → Prop} {a dx : Addr} {fs : List (Str × V)} (F : FnOk X.prog X.w X.K X.mg X.base ex n f fd ps sp) (hs : PySem.W.findIn X.K (.ref C) "__len__" = some (some (.ref f))) (hf : PySem.W.isFn X.K (.ref f) = true)
    (h0 : PySem.W.findIn X.K (.ref C) "__bool__" = some none) (hb : Binds X.K fd ps []) (hx : Passes ex X E) (hr : Room (n + 1) A) (fr : A.frames = X.A.frames) (J : Inv X pn sg G st) (ha : G a = some (.ins C dx fs))
    {Y : VK} (want : sp [.ref a] G (fun v G' => ∃ k : Int, v = .int k ∧ (0 ≤ k ∧ k < 2 ^ 63) ∧ Y (.int k) G') E) (fin : ∀ (k : Int) G' st', Inv X pn sg G' st' → Y (.int k) G' → Z (k != 0) st') :
    wpAny (model X.prog X.w) A (truthy (.ref a)) Z X.xe st := by
  obtain ⟨mA, O, _⟩ := ins_get J.hok ha
  obtain ⟨od, I, _⟩ := O.look
  have XK : X.K.In st.heap := J.kIn
  unfold truthy
  refine wpAny_bind (m := callSpecial? (.ref a) (Str.ofString "__bool__")) (wpAny_bind (wpAny_bind (I.type.here ((PySem.W.looks_findIn XK h0).here (wpAny_pure ?_)))))
  refine wpAny_bind (wpAny_bind (I.type.here ((PySem.W.looks_findIn XK hs).here ?_)))
  show wpAny _ _ (if (some (Value.ref f)).isNone = true then _ else _) _ _ _
  rw [if_neg (by simp)]
  have key : wpAny (model X.prog X.w) A (runValue (.builtin "len" ⟨[.ref a], []⟩)) (fun r st' => ∃ (k : Int) (t : Tok), r = .int k t ∧ Z (k != 0) st') X.xe st := by
    refine wpAny_runValue (codeAny_builtin entry_len ?_)
    rw [Around.under_plainId plain_len _]
    refine wpAny_mono (len_body (Y := fun r st' => ∃ (k : Int) (t : Tok), r = .int k t ∧ Z (k != 0) st') XK I hs hf ?_) (fun fn st' q => by obtain ⟨r, rfl, q⟩ := q; exact q) fun _ _ q => q
    refine wpAny_mono (run_deep (vs := [V.ref a]) F hr.in1 (by exact fr) hb hx J (.cons rfl .nil) want) (fun u st2 q => ?_) fun _ _ q => q
    obtain ⟨v, G2, J2, rv, k, rfl, hk, y⟩ := q
    obtain ⟨t, rfl⟩ := rv
    exact ⟨hk, k, _, rfl, fin k G2 _ (J2.tok _) y⟩
  refine wpAny_bind (wpAny_mono key (fun r st' q => ?_) fun _ _ q => q)
  obtain ⟨k, t, rfl, q⟩ := q
  exact wpAny_pure q
theorem bool_new_in {prog : Program} {w : World} (v : Value) : MeetsIn prog w (Builtin.«bool.__new__» ⟨[.type "bool", v], []⟩)
    (fun A R s => wpAny (model prog w) A.in1 (truthy v) (fun b s' => R (.ok (.ret (.bool b))) s') (fun e s' => R (.error e) s') s) :=
  .of_wp fun A R s h => by
    have sub := F.conv_sub_bool
    have go : ∀ {Y : Bool → Shared → Prop}, (∀ b s', R (.ok (.ret (.bool b))) s' → Y b s') → wpAny (model prog w) A.in1 (truthy v) Y (fun e s' => R (.error e) s') s := fun y => wpAny_mono h y fun _ _ z => z
    obtain ⟨hp, g, d, tk, os⟩ := s
    repeat (first | assumption | with_reducible refine go (fun b s' z => ?_) | wp_step)
    all_goals first | exact ⟨_, rfl, z⟩ | exact z | skip
def boolZ (Z : VK) : VK := fun v G => ∃ k : Int, v = .int k ∧ Z (.bl (k != 0)) G
def boolOwn (C : Addr) (sp : Sp) (E : XK) : List V → Hp → VK → Prop := fun xs G Z => ∃ a dx fs, xs = [.ref a] ∧ G a = some (.ins C dx fs) ∧ sp [.ref a] G (fun v G' => ∃ k : Int, v = .int k ∧ (0 ≤ k ∧ k < 2 ^ 63) ∧ boolZ Z (.int k) G') E
theorem call_boolOwn (Fn : FnOk X.prog X.w X.K X.mg X.base ex n f fd ps sp) (hs : PySem.W.findIn X.K (.ref C) "__len__" = some (some (.ref f))) (hf : PySem.W.isFn X.K (.ref f) = true) (h0 : PySem.W.findIn X.K (.ref C) "__bool__" = some none) (hb : Binds X.K fd ps [])
    (hx : Passes ex X E) (hr : Room (n + 3) X.A) : CallR X (.type "bool") (boolOwn C sp E) := by
  intro pn st sg G xs us Z J rel ⟨a, dx, fs, e, ha, want⟩
  subst e
  rw [Vals.ref1 rel]
  refine callType_newIn PySem.F.called_bool PySem.F.newNe_bool (PySem.F.typeCall_bool_1 _) (PySem.F.newCall_bool_1 _) (fun obj => PySem.F.args_object_init_2 obj _) PySem.F.entry_bool_new (bool_new_in _) ?_
  refine truthy_own (Y := boolZ Z) Fn hs hf h0 hb hx hr.in1.in1 rfl J ha want (fun k G' st' J' y => ?_)
  obtain ⟨k2, e, y⟩ := y
  cases e
  exact ⟨rfl, .bl (k != 0), G', J', rfl, y⟩
end
/-! ### C.m(k = v), m a classmethod -/
def tCMethKw (C : Addr) (n : Nat) (sp : Sp) (gV : List V → List V → List V) (E : XK) (ta : TE) (tk : TA) : TE := fun sg G Z => ta sg G fun x G1 => x = .ref C ∧ tk sg G1 fun zs G2 => zs.length = n ∧ sp (gV [.ref C] zs) G2 Z E
section
variable {X : Cx} {ex : CXT} {n : Nat} {g C p : Addr} {mc : Value} {fd : FuncData} {ps ks : List Str} {sp : Sp} {E : XK} {m : Str} {o : Expr} {apos pos : Pos} {kws : List Keyword} {ta : TE} {tk : TA} {gU : List Value → List Value → List Value} {gV : List V → List V → List V}
theorem pe_cmethKw {pl : Sem Bool} (ho : PE X o ta) (r : ClX.CRead X.K C mc) (c : ClX.CMet X.K C mc m p g) (F : FnOk X.prog X.w X.K X.mg X.base ex n g fd ps sp) (hr : Room n X.A) (hb : KBn X.K fd ps 1 ks gU gV) (hx : Passes ex X E) (hkw : PK X kws tk)
    (hall : (backToKw pos (keywordEach kws X.env)).all (·.1.isSome) = true := by rfl) (hks : (backToKw pos (keywordEach kws X.env)).filterMap (·.1) = ks := by rfl)
    (hpl : ((backTo pos (starEach [] X.env)).any (·.1) || (backToKw pos (keywordEach kws X.env)).any (·.1.isNone)) = false := by rfl)
    (ht : eval (.Call (.Attribute o m apos) [] kws pos) X.env = (do
      let obj ← eval o X.env
      standAt apos.atName
      let (fn, one) ← holding [obj] (getMethod obj m pl)
      callWith pos fn one (backTo pos (starEach [] X.env)) (backToKw pos (keywordEach kws X.env))) := by rfl) :
    PE X (.Call (.Attribute o m apos) [] kws pos) (tCMethKw C ks.length sp gV E ta tk) := by
  refine ⟨fun pn st sg G Z J h => PySem.W.methodCall_KW (pl := pl) (thn (ho.run pn st sg G _ J h) ?_) ht⟩
  rintro u st1 ⟨y, G1, J1, ry, rfl, h1⟩
  obtain rfl : u = Value.ref C := ry
  refine ClX.getmethcm_ok J1 r c fun st2 J2 => ?_
  refine PySem.W.callWith_of (P := PySem.W.MethP X.K st1.heap.objs.size g (.ref C)) hpl (PySem.W.keeps_M c.fi) (evalArgs_kw2_nil hall ?_)
  refine thn (hkw.run pos _ st2 sg G1 _ J2 h1) fun ws st3 ⟨zs, G3, J3, rz, len, h3⟩ => ⟨⟨ClX.pin_at J3, J3.kIn⟩, ?_⟩
  rw [hks]
  have lw : ws.length = ks.length := rz.length.symm.trans len
  have done : wpAny (model X.prog X.w) X.A (call (.ref st1.heap.objs.size) [] (ks.zip ws)) (EP X ((st1.heap.objs.size, PySem.W.methodObj (.ref g) (.ref C)) :: pn) sg Z) X.xe st3 := by
    refine wpAny_call (PySem.W.method_call (ClX.pin_at J3) ?_)
    refine codeAny_mono (F.run X.A X.stack st3 G3 ⟨[.ref C], ks.zip ws⟩ (gU [.ref C] ws) (gV [.ref C] zs) Z E hr J3.env0 (hb.to st3 [.ref C] ws J3.kIn rfl lw) (hb.rel (.cons rfl .nil) rz) h3) fun r st4 fin => ?_
    cases r with
    | error er => exact hx _ sg G3 st3 er st4 J3 fin
    | ok fl =>
      cases fl with
      | ret u => exact J3.after fin
      | next => exact fin.elim
      | brk => exact fin.elim
      | cont => exact fin.elim
  exact thn done fun _ _ y => ClX.unpinE y
end
end Fs

namespace Fs
open PySem PySem.Spec PyProof.Rows PySem.W L2
open AutoSeq1 (wpAny_loadPart')
open MeetsSeq MeetsSeq2 MeetsSeq3 SeqRoads2
/-! ### a built-in value against an own object: the built-in compare declines -/
section
variable {prog : Program} {w : World}
theorem decl_str_eq (a : Str) (t : Tok) (x C dx : Addr) : Meets (Builtin.«str.__eq__» ⟨[.str a t, .ref x], []⟩) (fun _ R s => s.heap.get? x = some (PySem.W.instObj C dx) ∧ R (.ok (.ret .notImplemented)) s) :=
  .of_wp fun prog w A R s h => by obtain ⟨hp, g, d, tk, os⟩ := s; obtain ⟨hl, h⟩ := h; wp_walk using wpAny_loadPart' hl, wpAny_load hl; exact ⟨_, rfl, h⟩
theorem decl_str_ne (a : Str) (t : Tok) (x C dx : Addr) : Meets (Builtin.«str.__ne__» ⟨[.str a t, .ref x], []⟩) (fun _ R s => s.heap.get? x = some (PySem.W.instObj C dx) ∧ R (.ok (.ret .notImplemented)) s) :=
  .of_wp fun prog w A R s h => by obtain ⟨hp, g, d, tk, os⟩ := s; obtain ⟨hl, h⟩ := h; wp_walk using wpAny_loadPart' hl, wpAny_load hl; exact ⟨_, rfl, h⟩
theorem decl_int_eq (a : Int) (t : Tok) (x C dx : Addr) : Meets (Builtin.«int.__eq__» ⟨[.int a t, .ref x], []⟩) (fun _ R s => s.heap.get? x = some (PySem.W.instObj C dx) ∧ R (.ok (.ret .notImplemented)) s) :=
  .of_wp fun prog w A R s h => by obtain ⟨hp, g, d, tk, os⟩ := s; obtain ⟨hl, h⟩ := h; wp_walk using wpAny_loadPart' hl, wpAny_load hl; exact ⟨_, rfl, h⟩
theorem decl_int_ne (a : Int) (t : Tok) (x C dx : Addr) : Meets (Builtin.«int.__ne__» ⟨[.int a t, .ref x], []⟩) (fun _ R s => s.heap.get? x = some (PySem.W.instObj C dx) ∧ R (.ok (.ret .notImplemented)) s) :=
  .of_wp fun prog w A R s h => by obtain ⟨hp, g, d, tk, os⟩ := s; obtain ⟨hl, h⟩ := h; wp_walk using wpAny_loadPart' hl, wpAny_load hl; exact ⟨_, rfl, h⟩
theorem decl_bool_eq (a : Bool) (x C dx : Addr) : Meets (Builtin.«int.__eq__» ⟨[.bool a, .ref x], []⟩) (fun _ R s => s.heap.get? x = some (PySem.W.instObj C dx) ∧ R (.ok (.ret .notImplemented)) s) :=
  .of_wp fun prog w A R s h => by obtain ⟨hp, g, d, tk, os⟩ := s; obtain ⟨hl, h⟩ := h; wp_walk using wpAny_loadPart' hl, wpAny_load hl; exact ⟨_, rfl, h⟩
theorem decl_bool_ne (a : Bool) (x C dx : Addr) : Meets (Builtin.«int.__ne__» ⟨[.bool a, .ref x], []⟩) (fun _ R s => s.heap.get? x = some (PySem.W.instObj C dx) ∧ R (.ok (.ret .notImplemented)) s) :=
  .of_wp fun prog w A R s h => by obtain ⟨hp, g, d, tk, os⟩ := s; obtain ⟨hl, h⟩ := h; wp_walk using wpAny_loadPart' hl, wpAny_load hl; exact ⟨_, rfl, h⟩
theorem decl_none_eq (x : Addr) : Gives (Builtin.«NoneType.__eq__» ⟨[.none, .ref x], []⟩) (.val (Value.notImplemented)) :=
  .of_wp fun M A E s Q h => by obtain ⟨hp, g, d, tk, os⟩ := s; wp_walk; exact ⟨_, rfl, h⟩
theorem decl_none_ne (x : Addr) : Gives (Builtin.«NoneType.__ne__» ⟨[.none, .ref x], []⟩) (.val (Value.notImplemented)) :=
  .of_wp fun M A E s Q h => by obtain ⟨hp, g, d, tk, os⟩ := s; wp_walk; exact ⟨_, rfl, h⟩
theorem decl_tup_eq (v : Value) (x : Addr) : MeetsIn prog w (Builtin.«tuple.__eq__» ⟨[v, .ref x], []⟩) (fun _ R s => Looks (model prog w) s.heap (isInstance (.ref x) (.type "tuple")) false ∧ R (.ok (.ret .notImplemented)) s) :=
  .of_wp fun A R s h => by
    obtain ⟨hl, h⟩ := h
    obtain ⟨hp, g, d, tk, os⟩ := s
    repeat (first | assumption | with_reducible refine hl.here ?_ | wp_step)
    all_goals first | exact ⟨_, rfl, h⟩ | exact h | skip
theorem decl_tup_ne (v : Value) (x : Addr) : MeetsIn prog w (Builtin.«tuple.__ne__» ⟨[v, .ref x], []⟩) (fun _ R s => Looks (model prog w) s.heap (isInstance (.ref x) (.type "tuple")) false ∧ R (.ok (.ret .notImplemented)) s) :=
  .of_wp fun A R s h => by
    obtain ⟨hl, h⟩ := h
    obtain ⟨hp, g, d, tk, os⟩ := s
    repeat (first | assumption | with_reducible refine hl.here ?_ | wp_step)
    all_goals first | exact ⟨_, rfl, h⟩ | exact h | skip
theorem decl_lst_eq (v : Value) (x : Addr) : MeetsIn prog w (Builtin.«list.__eq__» ⟨[v, .ref x], []⟩) (fun _ R s => Looks (model prog w) s.heap (isInstance (.ref x) (.type "list")) false ∧ R (.ok (.ret .notImplemented)) s) :=
  .of_wp fun A R s h => by
    obtain ⟨hl, h⟩ := h
    obtain ⟨hp, g, d, tk, os⟩ := s
    repeat (first | assumption | with_reducible refine hl.here ?_ | wp_step)
    all_goals first | exact ⟨_, rfl, h⟩ | exact h | skip
theorem decl_lst_ne (v : Value) (x : Addr) : MeetsIn prog w (Builtin.«list.__ne__» ⟨[v, .ref x], []⟩) (fun _ R s => Looks (model prog w) s.heap (isInstance (.ref x) (.type "list")) false ∧ R (.ok (.ret .notImplemented)) s) :=
  .of_wp fun A R s h => by
    obtain ⟨hl, h⟩ := h
    obtain ⟨hp, g, d, tk, os⟩ := s
    repeat (first | assumption | with_reducible refine hl.here ?_ | wp_step)
    all_goals first | exact ⟨_, rfl, h⟩ | exact h | skip
theorem decl_dct_eq (v : Value) (x : Addr) : MeetsIn prog w (Builtin.«dict.__eq__» ⟨[v, .ref x], []⟩) (fun _ R s => Looks (model prog w) s.heap (isInstance (.ref x) (.type "dict")) false ∧ R (.ok (.ret .notImplemented)) s) :=
  .of_wp fun A R s h => by
    obtain ⟨hl, h⟩ := h
    obtain ⟨hp, g, d, tk, os⟩ := s
    repeat (first | assumption | with_reducible refine hl.here ?_ | wp_step)
    all_goals first | exact ⟨_, rfl, h⟩ | exact h | skip
theorem decl_dct_ne (v : Value) (x : Addr) : MeetsIn prog w (Builtin.«dict.__ne__» ⟨[v, .ref x], []⟩) (fun _ R s => Looks (model prog w) s.heap (isInstance (.ref x) (.type "dict")) false ∧ R (.ok (.ret .notImplemented)) s) :=
  .of_wp fun A R s h => by
    obtain ⟨hl, h⟩ := h
    obtain ⟨hp, g, d, tk, os⟩ := s
    repeat (first | assumption | with_reducible refine hl.here ?_ | wp_step)
    all_goals first | exact ⟨_, rfl, h⟩ | exact h | skip
end
section
variable {prog : Program} {w : World} {A : Around} {E : Value → Shared → Prop} {st : Shared} {K : PySem.W.Frag} {x C f : Addr} {ox : Obj} {od : Option Obj}
theorem own_back {op : CmpOp} {v : Value} {T id : String} {Z : Value → Shared → Prop} (hu : A.units < cLine) (hT : st.TypeIs v T) (slot : Slot T (cmpInfo op).2.1 id) (X : K.In st.heap) (I : PySem.W.InstAt st.heap x ox C od)
    (sub : PySem.W.mroIn K C (.type T) = some false)
    (dec : ∀ Z' : Value → Shared → Prop, Z' .notImplemented st → wpAny (model prog w) A (call (.builtin id) [v, .ref x]) Z' E st)
    (two : wpAny (model prog w) A (tryCompare (.ref x) (cmpInfo op).2.2 v) (fun r s' => ∃ u, r = some u ∧ Z u s') E st) :
    wpAny (model prog w) A (richCompare op v (.ref x)) Z E st := by
  rcases hi : cmpInfo op with ⟨sym, a, b⟩
  rw [hi] at slot two
  unfold richCompare
  simp only [hi, hT.oneThing_none]
  refine wpAny_holding (wpAny_bind (wpAny_cRoomFor hu ?_))
  refine wpAny_bind (wpAny_typeOf hT (wpAny_bind (I.type.here ?_)))
  have ne : (Value.type T != Value.ref C) = true := rfl
  simp only [ne, if_true]
  refine wpAny_bind ((PySem.W.looks_mroIn X sub).here ?_)
  simp only [Bool.false_eq_true, if_false, Bool.not_false, if_true]
  refine wpAny_bind (m := tryCompare v _ (.ref x)) (wpAny_tryCompare_declines hT slot (dec _ ⟨rfl, ?_⟩))
  refine wpAny_bind (m := tryCompare (.ref x) _ v) (wpAny_mono two (fun r s' q => ?_) fun _ _ q => q)
  obtain ⟨u, rfl, z⟩ := q
  exact wpAny_pure z
end
/-! ### thing == x, thing != x, x of an own class with its own __eq__ -/
/-- a value of a built-in kind -/
def Odd (K : PySem.W.Frag) (G : Hp) (p : V) : Prop := (∃ z, p = .str z) ∨ p = .non ∨ (∃ b, p = .bl b) ∨ (∃ i, p = .int i) ∨ (∃ t xs, p = .ref t ∧ SqT K G t xs) ∨ (∃ t xs, p = .ref t ∧ SqL K G t xs) ∨ ∃ t kvs, p = .ref t ∧ G t = some (.dK kvs)
/-- the class is none of these kinds -/
structure NoKind (K : PySem.W.Frag) (C : Addr) : Prop where
  str : PySem.W.mroIn K C (.type "str") = some false
  non : PySem.W.mroIn K C (.type "NoneType") = some false
  bl : PySem.W.mroIn K C (.type "bool") = some false
  int : PySem.W.mroIn K C (.type "int") = some false
  tup : PySem.W.mroIn K C (.type "tuple") = some false
  lst : PySem.W.mroIn K C (.type "list") = some false
  dct : PySem.W.mroIn K C (.type "dict") = some false
def backOwn (K : PySem.W.Frag) (C : Addr) (sp : Sp) (E : XK) (neg : Bool) : R2 := fun p q G Z => ∃ a dx fs, q = .ref a ∧ G a = some (.ins C dx fs) ∧ Odd K G p ∧ sp [q, p] G (fun v G' => ∃ k, v = .bl k ∧ Z (.bl (k != neg)) G') E
section
variable {X : Cx} {ex : CXT} {n : Nat} {f C : Addr} {fd : FuncData} {ps : List Str} {sp : Sp} {E : XK}
theorem odd_dec {pn : List (Addr × Obj)} {sg : L2.St} {G : Hp} {st : Shared} {p : V} {vp : Value} {a dx : Addr} {fs : List (Str × V)} (N : NoKind X.K C) (J : Inv X pn sg G st) (rp : RelV p vp) (ha : G a = some (.ins C dx fs)) (odd : Odd X.K G p) :
    ∃ T ideq idne : String, st.TypeIs vp T ∧ PySem.W.mroIn X.K C (.type T) = some false ∧ Slot T (cmpInfo .Eq).2.1 ideq ∧ Slot T (cmpInfo .NotEq).2.1 idne ∧
      (∀ (A : Around) (Ee : Value → Shared → Prop) (Z' : Value → Shared → Prop), Z' .notImplemented st → wpAny (model X.prog X.w) A (call (.builtin ideq) [vp, .ref a]) Z' Ee st) ∧
      (∀ (A : Around) (Ee : Value → Shared → Prop) (Z' : Value → Shared → Prop), Z' .notImplemented st → wpAny (model X.prog X.w) A (call (.builtin idne) [vp, .ref a]) Z' Ee st) := by
  obtain ⟨mA, O, _⟩ := ins_get J.hok ha
  obtain ⟨od, I, _⟩ := O.look
  have ob := O.obj
  have looks : ∀ T : String, PySem.W.mroIn X.K C (.type T) = some false → Looks (model X.prog X.w) st.heap (isInstance (.ref a) (.type T)) false := fun T e => I.type.andThen (PySem.W.looks_mroIn J.kIn e)
  have go : ∀ {T id : String} {B : Builtin} {S : PySem.Spec} {name : Str}, Slot T name id → st.TypeIs vp T → entryFor table id = some B → argsOk id ⟨[vp, .ref a], []⟩ → MeetsIn X.prog X.w (B ⟨[vp, .ref a], []⟩) S →
      (∀ (A : Around) (R : Result → Shared → Prop), R (.ok (.ret .notImplemented)) st → S A R st) →
      ∀ (A : Around) (Ee : Value → Shared → Prop) (Z' : Value → Shared → Prop), Z' .notImplemented st → wpAny (model X.prog X.w) A (call (.builtin id) [vp, .ref a]) Z' Ee st :=
    fun slot hT entry args g h A Ee Z' z => wpAny_call (codeAny_call_builtin slot.plain entry (slot.check _ _ _ _ _ _ _ _ hT args (g A (wants Z' Ee) st (h A (wants Z' Ee) z))))
  rcases odd with ⟨z, rfl⟩ | rfl | ⟨b, rfl⟩ | ⟨i, rfl⟩ | ⟨t, xs, rfl, hs⟩ | ⟨t, xs, rfl, hs⟩ | ⟨t, kvs, rfl, hd⟩
  · obtain ⟨u, rfl⟩ := rp
    exact ⟨"str", _, _, typeIs_str _ _ _, N.str, PySem.F.slot_str_eq, PySem.F.slot_str_ne, go PySem.F.slot_str_eq (typeIs_str _ _ _) PySem.F.entry_str_eq (PySem.F.args_str_eq_2 _ _) ((decl_str_eq z u a C dx).inModel _ _) (fun _ _ r => ⟨ob, r⟩),
      go PySem.F.slot_str_ne (typeIs_str _ _ _) PySem.F.entry_str_ne (PySem.F.args_str_ne_2 _ _) ((decl_str_ne z u a C dx).inModel _ _) (fun _ _ r => ⟨ob, r⟩)⟩
  · obtain rfl : vp = Value.none := rp
    exact ⟨"NoneType", _, _, rfl, N.non, PySem.F.slot_NoneType_eq, PySem.F.slot_NoneType_ne, fun A Ee Z' z => call_gives PySem.F.slot_NoneType_eq rfl PySem.F.entry_NoneType_eq (PySem.F.args_NoneType_eq_2 _ _) (decl_none_eq a) z,
      fun A Ee Z' z => call_gives PySem.F.slot_NoneType_ne rfl PySem.F.entry_NoneType_ne (PySem.F.args_NoneType_ne_2 _ _) (decl_none_ne a) z⟩
  · obtain rfl : vp = Value.bool b := rp
    exact ⟨"bool", _, _, rfl, N.bl, PySem.F.slot_bool_eq, PySem.F.slot_bool_ne, go PySem.F.slot_bool_eq rfl PySem.F.entry_int_eq (PySem.F.args_int_eq_2 _ _) ((decl_bool_eq b a C dx).inModel _ _) (fun _ _ r => ⟨ob, r⟩),
      go PySem.F.slot_bool_ne rfl PySem.F.entry_int_ne (PySem.F.args_int_ne_2 _ _) ((decl_bool_ne b a C dx).inModel _ _) (fun _ _ r => ⟨ob, r⟩)⟩
  · obtain ⟨u, rfl⟩ := rp
    exact ⟨"int", _, _, rfl, N.int, PySem.F.slot_int_eq, PySem.F.slot_int_ne, go PySem.F.slot_int_eq rfl PySem.F.entry_int_eq (PySem.F.args_int_eq_2 _ _) ((decl_int_eq i u a C dx).inModel _ _) (fun _ _ r => ⟨ob, r⟩),
      go PySem.F.slot_int_ne rfl PySem.F.entry_int_ne (PySem.F.args_int_ne_2 _ _) ((decl_int_ne i u a C dx).inModel _ _) (fun _ _ r => ⟨ob, r⟩)⟩
  · obtain rfl : vp = Value.ref t := rp
    obtain ⟨its, _, tp, _⟩ := J.tuple hs
    exact ⟨"tuple", _, _, tp.typeIs, N.tup, PySem.F.slot_tuple_eq, PySem.F.slot_tuple_ne, go PySem.F.slot_tuple_eq tp.typeIs PySem.F.entry_tuple_eq (PySem.F.args_tuple_eq_2 _ _) (decl_tup_eq _ _) (fun _ _ r => ⟨looks _ N.tup, r⟩),
      go PySem.F.slot_tuple_ne tp.typeIs PySem.F.entry_tuple_ne (PySem.F.args_tuple_ne_2 _ _) (decl_tup_ne _ _) (fun _ _ r => ⟨looks _ N.tup, r⟩)⟩
  · obtain rfl : vp = Value.ref t := rp
    obtain ⟨its, _, pl, _⟩ := J.list hs
    exact ⟨"list", _, _, pl.isList.typeIs, N.lst, PySem.F.slot_list_eq, PySem.F.slot_list_ne, go PySem.F.slot_list_eq pl.isList.typeIs PySem.F.entry_list_eq (PySem.F.args_list_eq_2 _ _) (decl_lst_eq _ _) (fun _ _ r => ⟨looks _ N.lst, r⟩),
      go PySem.F.slot_list_ne pl.isList.typeIs PySem.F.entry_list_ne (PySem.F.args_list_ne_2 _ _) (decl_lst_ne _ _) (fun _ _ r => ⟨looks _ N.lst, r⟩)⟩
  · obtain rfl : vp = Value.ref t := rp
    obtain ⟨_, _, vs, _, o, es, ep, h1, h2, _⟩ := (show ObjOk X.prog X.w G st.heap t (.dK kvs) from J.hok t _ hd)
    have ty : st.TypeIs (.ref t) "dict" := ⟨o, h1, h2.1⟩
    exact ⟨"dict", _, _, ty, N.dct, PySem.F.slot_dict_eq, PySem.F.slot_dict_ne, go PySem.F.slot_dict_eq ty PySem.F.entry_dict_eq (PySem.F.args_dict_eq_2 _ _) (decl_dct_eq _ _) (fun _ _ r => ⟨looks _ N.dct, r⟩),
      go PySem.F.slot_dict_ne ty PySem.F.entry_dict_ne (PySem.F.args_dict_ne_2 _ _) (decl_dct_ne _ _) (fun _ _ r => ⟨looks _ N.dct, r⟩)⟩
theorem op_eqBack (N : NoKind X.K C) (F : FnOk X.prog X.w X.K X.mg X.base ex n f fd ps sp) (hs : PySem.W.findIn X.K (.ref C) "__eq__" = some (some (.ref f))) (hf : PySem.W.isFn X.K (.ref f) = true) (hb : Binds X.K fd ps []) (hx : Passes ex X E) (hr : Room n X.A) :
    OpR X (compareOp .Eq) (backOwn X.K C sp E false) := by
  intro pn st sg G p q vp vq Z J rp rq ⟨a, dx, fs, ea, ha, odd, want⟩
  subst ea
  obtain rfl : vq = Value.ref a := rq
  obtain ⟨T, ideq, idne, hT, sub, s1, s2, d1, d2⟩ := odd_dec N J rp ha odd
  obtain ⟨mA, O, _⟩ := ins_get J.hok ha
  obtain ⟨od, I, _⟩ := O.look
  show wpAny _ _ (richCompare .Eq vp (.ref a)) _ _ st
  refine own_back hr.units0 hT s1 J.kIn I sub (d1 _ _) ?_
  unfold tryCompare
  refine wpAny_bind (PySem.W.ifBound_K J.kIn I hs hf (wpAny_mono (run_deep (vs := [V.ref a, p]) F hr rfl hb hx J (.cons rfl (.cons rp .nil)) want) (fun u st2 fin => ?_) fun _ _ z => z))
  obtain ⟨v, G2, J2, rv, k, rfl, z⟩ := fin
  obtain rfl : u = Value.bool k := rv
  exact wpAny_pure ⟨_, rfl, _, G2, J2, (by cases k <;> rfl), z⟩
theorem op_neBack (N : NoKind X.K C) (F : FnOk X.prog X.w X.K X.mg X.base ex n f fd ps sp) (mk : PySem.W.makesIn X.K C = true) (hn : PySem.W.findIn X.K (.ref C) "__ne__" = some (some (.builtin "object.__ne__")))
    (hs : PySem.W.findIn X.K (.ref C) "__eq__" = some (some (.ref f))) (hf : PySem.W.isFn X.K (.ref f) = true) (hb : Binds X.K fd ps []) (hx : Passes ex X E) (hr : Room (n + 1) X.A) :
    OpR X (compareOp .NotEq) (backOwn X.K C sp E true) := by
  intro pn st sg G p q vp vq Z J rp rq ⟨a, dx, fs, ea, ha, odd, want⟩
  subst ea
  obtain rfl : vq = Value.ref a := rq
  obtain ⟨T, ideq, idne, hT, sub, s1, s2, d1, d2⟩ := odd_dec N J rp ha odd
  obtain ⟨mA, O, _⟩ := ins_get J.hok ha
  obtain ⟨od, I, _⟩ := O.look
  show wpAny _ _ (richCompare .NotEq vp (.ref a)) _ _ st
  refine own_back hr.units0 hT s2 J.kIn I sub (d2 _ _) ?_
  refine ne_try (by have := hr.un; omega) J.kIn I mk hn hs hf ?_
  refine wpAny_mono (run_deep (vs := [V.ref a, p]) F hr.in1 rfl hb hx J (.cons rfl (.cons rp .nil)) want) (fun u st2 fin => ?_) fun _ _ z => z
  obtain ⟨v, G2, J2, rv, k, rfl, z⟩ := fin
  obtain rfl : u = Value.bool k := rv
  exact ⟨k, rfl, _, rfl, _, G2, J2, (by cases k <;> rfl), z⟩
end
end Fs

namespace Fs
open PySem PySem.Spec PyProof.Rows L2 LamX NdefX
/-! ### things that are known for a while: ice, and thaw -/
def Some1 : HO := .ext fun _ => True
def ice (G : Hp) (L : List (Addr × Obj)) : Hp := fun b => match L.lookup b with
  | some o => some (.frz o Some1)
  | none => G b
def thaw (G : Hp) (L : List (Addr × Obj)) : Hp := fun b => match L.lookup b with
  | some _ => none
  | none => G b
section
variable {G G' : Hp} {L : List (Addr × Obj)} {b : Addr} {o : Obj}
theorem ice_in (c : L.lookup b = some o) : ice G L b = some (.frz o Some1) := by
  unfold ice
  rw [c]
theorem ice_out (c : L.lookup b = none) : ice G L b = G b := by
  unfold ice
  rw [c]
theorem thaw_in (c : L.lookup b = some o) : thaw G L b = none := by
  unfold thaw
  rw [c]
theorem thaw_out (c : L.lookup b = none) : thaw G L b = G b := by
  unfold thaw
  rw [c]
theorem thaw_none (n : G b = none) : thaw G L b = none := by
  cases c : L.lookup b with
  | some o => exact thaw_in c
  | none => rw [thaw_out c]; exact n
/-- what lies in the ice -/
def Iced (G : Hp) (L : List (Addr × Obj)) : Prop := ∀ b o, L.lookup b = some o → G b = some (.frz o Some1)
/-- what may be put into it -/
def Bare (G : Hp) (h : Heap) (L : List (Addr × Obj)) : Prop := ∀ b o, L.lookup b = some o → h.get? b = some o ∧ G b = none
/-- what is not tracked -/
def Off (G : Hp) (L : List (Addr × Obj)) : Prop := ∀ b o, L.lookup b = some o → G b = none
theorem off_same {G : Hp} {L : List (Addr × Obj)} (h : Off G L) : Same G (ice G L) := fun b u e => by
  cases c : L.lookup b with
  | some o =>
    rw [h b o c] at e
    cases e
  | none => exact (ice_out c).trans e
theorem ext_thaw {G G' : Hp} {L : List (Addr × Obj)} (h : Off G L) (e : ExtN (ice G L) G') : ExtN G (thaw G' L) := fun b u q t => by
  cases c : L.lookup b with
  | some o =>
    rw [h b o c] at q
    cases q
  | none => exact (thaw_out c).trans (e b u ((ice_out c).trans q) t)
theorem iced_ice : Iced (ice G L) L := fun _ _ c => ice_in c
theorem Iced.later (i : Iced G L) (e : ExtN G G') : Iced G' L := fun b o c => e b _ (i b o c) (fun ps z => nomatch z)
theorem Iced.off (i : Iced G L) {u : HO} (e : G b = some u) (ne : ∀ o, u ≠ .frz o Some1) : L.lookup b = none := by
  cases c : L.lookup b with
  | none => rfl
  | some o =>
    rw [i b o c] at e
    exact absurd (Option.some.inj e).symm (ne o)
theorem Iced.offT (i : Iced G L) {xs : List V} (e : G b = some (.tup xs)) : L.lookup b = none := i.off (u := .tup xs) e (fun o z => by
  have z' : HO.tup xs = HO.frz o Some1 := z
  cases z')
theorem Iced.offO (i : Iced G L) {a : Addr} (e : G b = some (.own a)) : L.lookup b = none := i.off (u := .own a) e (fun o z => by
  have z' : HO.own a = HO.frz o Some1 := z
  cases z')
theorem Iced.offB (i : Iced G L) {ps : Array Value} (e : G b = some (.tbl ps)) : L.lookup b = none := i.off (u := .tbl ps) e (fun o z => by
  have z' : HO.tbl ps = HO.frz o Some1 := z
  cases z')
theorem ext_ice {H : Hp} (i : Iced G L) (e : ExtN (thaw G L) H) : ExtN G (ice H L) := fun b u q t => by
  cases c : L.lookup b with
  | some o =>
    have z := i b o c
    rw [q] at z
    cases z
    exact ice_in c
  | none => exact (ice_out c).trans (e b u ((thaw_out c).trans q) t)
theorem Iced.off0 (i : Iced G L) (e : G b = none) : L.lookup b = none := by
  cases c : L.lookup b with
  | none => rfl
  | some o =>
    rw [i b o c] at e
    cases e
end
section
variable {P : Program} {w : World} {G G' H : Hp} {h h' B : Heap} {L : List (Addr × Obj)} {fs : List Addr}
theorem Bare.off (hb : Bare G h L) {b : Addr} {u : HO} (e : G b = some u) : L.lookup b = none := by
  cases c : L.lookup b with
  | none => rfl
  | some o =>
    rw [(hb b o c).2] at e
    cases e
theorem ice_ok (ok : HOk P w G h) (hb : Bare G h L) : HOk P w (ice G L) h := fun b u e => by
  cases c : L.lookup b with
  | some o =>
    rw [ice_in c] at e
    cases e
    have q := (hb b o c).1
    exact ⟨q, True.intro, ⟨_, q⟩, fun _ _ _ _ => True.intro⟩
  | none =>
    rw [ice_out c] at e
    exact (ok b u e).stay (fun _ _ _ q => q) (fun d q => (ice_out (hb.off q)).trans q) fun d xs q => (ice_out (hb.off q)).trans q
theorem thaw_ok (ok : HOk P w G h) (hi : Iced G L) : HOk P w (thaw G L) h := fun b u e => by
  cases c : L.lookup b with
  | some o =>
    rw [thaw_in c] at e
    cases e
  | none =>
    rw [thaw_out c] at e
    exact (ok b u e).stay (fun _ _ _ q => q) (fun d q => (thaw_out (hi.offO q)).trans q) fun d xs q => (thaw_out (hi.offT q)).trans q
/-- behind a call in the ice -/
theorem un_thaw (u : Un fs [] (ice G L) G' h h') (hb : Bare G h L) (ok : HOk P w G' h') : Un fs [] G (thaw G' L) h h' where
  keep := fun b o q n hf hx => by
    cases c : L.lookup b with
    | some o' =>
      have e := (hb b o' c).1
      rw [q] at e
      cases e
      exact (ok b _ (u.frzs b o _ (ice_in c))).1
    | none => exact u.keep b o q ((ice_out c).trans n) hf hx
  slot := fun b o q n hf hx => by
    cases c : L.lookup b with
    | some o' =>
      have e := (hb b o' c).1
      rw [q] at e
      cases e
      exact ⟨o.slots, (ok b _ (u.frzs b o _ (ice_in c))).1⟩
    | none => exact u.slot b o q ((ice_out c).trans n) hf hx
  free := fun b o q n hx => by
    cases c : L.lookup b with
    | some o' => exact thaw_in c
    | none => exact (thaw_out c).trans (u.free b o q ((ice_out c).trans n) hx)
  there := u.there
  tups := fun b xs q => by
    have c := hb.off q
    exact (thaw_out c).trans (u.tups b xs ((ice_out c).trans q))
  frzs := fun b o v q => by
    have c := hb.off q
    exact (thaw_out c).trans (u.frzs b o v ((ice_out c).trans q))
  tbls := fun b ps q => by
    have c := hb.off q
    obtain ⟨more, e⟩ := u.tbls b ps ((ice_out c).trans q)
    exact ⟨more, (thaw_out c).trans e⟩
theorem iced_after (u : Un fs [] (ice G L) G' h h') : Iced G' L := fun b o c => u.frzs b o _ (ice_in c)
/-- back into the ice behind a call out of it -/
theorem un_ice (u : Un fs [] (thaw G L) H h h') (hi : Iced G L) : Un fs [] G (ice H L) h h' where
  keep := fun b o q n hf hx => u.keep b o q ((thaw_out (hi.off0 n)).trans n) hf hx
  slot := fun b o q n hf hx => u.slot b o q ((thaw_out (hi.off0 n)).trans n) hf hx
  free := fun b o q n hx => (ice_out (hi.off0 n)).trans (u.free b o q ((thaw_out (hi.off0 n)).trans n) hx)
  there := u.there
  tups := fun b xs q => by
    have c := hi.offT q
    exact (ice_out c).trans (u.tups b xs ((thaw_out c).trans q))
  frzs := fun b o v q => by
    cases c : L.lookup b with
    | some o' =>
      have e := hi b o' c
      rw [q] at e
      cases e
      exact ice_in c
    | none => exact (ice_out c).trans (u.frzs b o v ((thaw_out c).trans q))
  tbls := fun b ps q => by
    have c := hi.offB q
    obtain ⟨more, e⟩ := u.tbls b ps ((thaw_out c).trans q)
    exact ⟨more, (ice_out c).trans e⟩
theorem ub_ice (u : UB fs (thaw G L) H h B h') (hi : Iced G L) : UB fs G (ice H L) h B h' where
  keep := fun b o q n hf => u.keep b o q ((thaw_out (hi.off0 n)).trans n) hf
  slot := u.slot
  free := fun b o q n => (ice_out (hi.off0 n)).trans (u.free b o q ((thaw_out (hi.off0 n)).trans n))
  there := u.there
  tups := fun b xs q => by
    have c := hi.offT q
    exact (ice_out c).trans (u.tups b xs ((thaw_out c).trans q))
  frzs := fun b o v q => by
    cases c : L.lookup b with
    | some o' =>
      have e := hi b o' c
      rw [q] at e
      cases e
      exact ice_in c
    | none => exact (ice_out c).trans (u.frzs b o v ((thaw_out c).trans q))
  tbls := fun b ps q => by
    have c := hi.offB q
    obtain ⟨more, e⟩ := u.tbls b ps ((thaw_out c).trans q)
    exact ⟨more, (ice_out c).trans e⟩
theorem bare_un (u : Un fs [] (thaw G L) H h h') (hi : Iced G L) (ok : HOk P w G h) (nf : ∀ b o, L.lookup b = some o → b ∉ fs) : Bare H h' L := fun b o c => by
  have e := (ok b _ (hi b o c)).1
  exact ⟨u.keep b o e (thaw_in c) (nf b o c) List.not_mem_nil, u.free b o e (thaw_in c) List.not_mem_nil⟩
theorem bare_ub (u : UB fs (thaw G L) H h B h') (hi : Iced G L) (ok : HOk P w G h) (nf : ∀ b o, L.lookup b = some o → b ∉ fs) : Bare H B L := fun b o c => by
  have e := (ok b _ (hi b o c)).1
  exact ⟨u.keep b o e (thaw_in c) (nf b o c), u.free b o e (thaw_in c)⟩
end
section
variable {P : Program} {w : World} {K : PySem.W.Frag} {mg : Str → Option Value} {base : Heap} {A : Around} {out : List Env} {st : Shared} {G : Hp} {L : List (Addr × Obj)}
theorem env_thaw (e : Env0 P w K mg base A out st G) (hi : Iced G L) : Env0 P w K mg base A out st (thaw G L) :=
  ⟨e.frames, e.mod, fun b o q => ⟨(e.bs b o q).1, thaw_none (e.bs b o q).2⟩, e.bsz, e.funs, fun b hb => thaw_none (e.frf b hb), thaw_ok e.hok hi, e.bare⟩
theorem env_ice (e : Env0 P w K mg base A out st G) (hb : Bare G st.heap L) (n1 : ∀ b o, L.lookup b = some o → base.get? b = none ∧ b ∉ frs out) : Env0 P w K mg base A out st (ice G L) := by
  refine ⟨e.frames, e.mod, fun b o q => ⟨(e.bs b o q).1, ?_⟩, e.bsz, e.funs, fun b hf => ?_, ice_ok e.hok hb, e.bare⟩
  · cases c : L.lookup b with
    | none => exact (ice_out c).trans (e.bs b o q).2
    | some o' =>
      rw [(n1 b o' c).1] at q
      cases q
  · cases c : L.lookup b with
    | none => exact (ice_out c).trans (e.frf b hf)
    | some o' => exact absurd hf (n1 b o' c).2
/-- an end, told out of the ice -/
theorem ce_ice {Z : VK} {u : Value} {st' : Shared} (e : Env0 P w K mg base A out st G) (hi : Iced G L) (c : CE out P w (thaw G L) st (fun v H => Off H L → Z v (ice H L)) u st') : CE out P w G st Z u st' := by
  obtain ⟨v, H, os, bare, un, ok, rv, z⟩ := c
  have nf : ∀ b o, L.lookup b = some o → b ∉ frs out := fun b o q m => by
    have z := e.frf b m
    rw [hi b o q] at z
    cases z
  have bb := bare_un un hi e.hok nf
  exact ⟨v, ice H L, os, bare, un_ice un hi, ice_ok ok bb, rv, z fun b o q => (bb b o q).2⟩
theorem cx_ice {E : XK} {u : Value} {st' : Shared} (e : Env0 P w K mg base A out st G) (hi : Iced G L) (c : L2N.CX P w out (thaw G L) st (fun cls d H => Off H L → E cls d (ice H L)) u st') : L2N.CX P w out G st E u st' := by
  obtain ⟨a, B, H, cls, d, rfl, fl, ok, ub, na, os, ag, he⟩ := c
  have nf : ∀ b o, L.lookup b = some o → b ∉ frs out := fun b o q m => by
    have z := e.frf b m
    rw [hi b o q] at z
    cases z
  have bb := bare_ub ub hi e.hok nf
  refine ⟨a, B, ice H L, cls, d, rfl, fl, ice_ok ok bb, ub_ice ub hi, ?_, os, ag, he fun b o q => (bb b o q).2⟩
  cases q : L.lookup a with
  | none => exact (ice_out q).trans na
  | some o =>
    have z := (bb a o q).1
    rw [fl.2.1] at z
    cases z
end
/-! ### thunks: what a call without arguments does, whoever calls -/
def Thk (P : Program) (w : World) (K : PySem.W.Frag) (mg : Str → Option Value) (base : Heap) (n : Nat) (f : Addr) (G : Hp) (sp : Hp → VK → XK → Prop) : Prop :=
  ∀ (A : Around) (out : List Env) (st : Shared) (G' : Hp) (Z : VK) (E : XK), Room n A → A.guards = some [] → Env0 P w K mg base A out st G' → ExtN G G' → sp G' Z E →
    PySem.W.FnAt f st.heap ∧ codeAny (model P w) A (.call (.ref f) ⟨[], []⟩) (CR (L2N.CX P w) out P w G' st Z E) st
section
variable {P : Program} {w : World} {K : PySem.W.Frag} {mg : Str → Option Value} {base : Heap} {n : Nat} {f : Addr} {G G' : Hp} {sp sp' : Hp → VK → XK → Prop}
theorem Thk.later (t : Thk P w K mg base n f G sp) (e : ExtN G G') : Thk P w K mg base n f G' sp := fun A out st G2 Z E hr gs env e2 h => t A out st G2 Z E hr gs env (e.trans e2) h
theorem Thk.imp (t : Thk P w K mg base n f G sp) (i : ∀ G' Z E, ExtN G G' → sp' G' Z E → sp G' Z E) : Thk P w K mg base n f G sp' := fun A out st G2 Z E hr gs env e2 h => t A out st G2 Z E hr gs env e2 (i G2 Z E e2 h)
theorem Thk.mono {m : Nat} (t : Thk P w K mg base n f G sp) (h : n ≤ m) : Thk P w K mg base m f G sp := fun A out st G2 Z E hr => t A out st G2 Z E (hr.mono h)
end
/-- x(), x a local name that holds a thunk -/
def tThk (P : Program) (w : World) (K : PySem.W.Frag) (mg : Str → Option Value) (base : Heap) (n i : Nat) (W : WX) : TE := fun sg G Z => ∃ (f : Addr) (sp : Hp → VK → XK → Prop), sg[i]? = some (some (.ref f)) ∧ Thk P w K mg base n f G sp ∧ sp G Z (fun cls d H => W cls d sg H)
theorem pe_thk {X : Cx} (P : Program) (w : World) (K : PySem.W.Frag) (mg : Str → Option Value) (base : Heap) {n i : Nat} {W : WX} {x : Str} {p pos : Pos} (hr : Room n X.A) (gs : X.A.guards = some []) (tk : L2N.Takes X W) (hN : X.N[i]? = some x) (hv : Vis X.env.scope x)
    (hdb : (x == ("__debug__" : Str)) = false := by decide) (hcd : (x == ("__classdict__" : Str)) = false := by decide) (e1 : X.prog = P := by rfl) (e2 : X.w = w := by rfl) (e3 : X.K = K := by rfl) (e4 : X.mg = mg := by rfl) (e5 : X.base = base := by rfl) : PE X (.Call (.Name x p) [] [] pos) (tThk P w K mg base n i W) := by
  subst e1 e2 e3 e4 e5
  refine ⟨fun pn st sg G Z J want => ?_⟩
  obtain ⟨f, sp, here, th, want⟩ := want
  refine wpAny_Call_Name_kw (thn ((pe_var (pos := p) hN hv hdb hcd).run pn st sg G (fun v G1 => v = .ref f ∧ G = G1) J ⟨.ref f, here, rfl, rfl⟩) fun u st1 ⟨v, G1, J1, rel, q⟩ => ?_)
  obtain ⟨rfl, rfl⟩ := q
  cases rel
  obtain ⟨at_, code⟩ := th X.A X.stack st1 G Z (fun cls d H => W cls d sg H) hr gs J1.env0 (ExtN.refl G) want
  refine PySem.W.callWith_F0 at_ (wpAny_call (codeAny_mono code fun r st2 fin => ?_))
  cases r with
  | error er => exact tk er st2 (L2N.XE.of_call J1 (fun _ _ _ h => h) fin)
  | ok fl =>
    cases fl with
    | ret u => exact J1.after fin
    | next => exact fin.elim
    | brk => exact fin.elim
    | cont => exact fin.elim
/-! ### a lambda is a thunk -/
def LamO (f : Addr) (F : NF) (body : Expr) : HO := .ext fun h => ∃ pm ctv : Value, h.get? f = some (PySem.W.kla_obj "<lambda>" F.qual F.params body F.scope F.cl pm F.c ctv)
/-- what the captured cells hold, as the ice tells -/
structure IceAt (G : Hp) (cl : List (Str × Addr)) (fr : List Str) (ws : List (Option V)) (L : List (Addr × Obj)) : Prop where
  len : ws.length = fr.length
  all : ∀ y c, cl.lookup y = some c → ∃ o v, L.lookup c = some o ∧ o.data = .cell v
  inj : ∀ x y c, cl.lookup x = some c → cl.lookup y = some c → x = y
  has : ∀ (i : Nat) (y : Str), fr[i]? = some y → ∃ c o, cl.lookup y = some c ∧ L.lookup c = some o ∧ ∀ v, ws[i]? = some (some v) → ∃ u, RelV v u ∧ o.data = .cell (some u)
  iced : Iced G L
theorem IceAt.later {G G' : Hp} {cl : List (Str × Addr)} {fr : List Str} {ws : List (Option V)} {L : List (Addr × Obj)} (i : IceAt G cl fr ws L) (e : ExtN G G') : IceAt G' cl fr ws L := ⟨i.len, i.all, i.inj, i.has, i.iced.later e⟩
theorem IceAt.cells {P : Program} {w : World} {G : Hp} {h : Heap} {cl : List (Str × Addr)} {fr : List Str} {ws : List (Option V)} {L : List (Addr × Obj)} (i : IceAt G cl fr ws L) (ok : HOk P w G h) : CellsAt cl fr ws h (thaw G L) := by
  have at_ : ∀ c o, L.lookup c = some o → h.get? c = some o := fun c o q => (ok c _ (i.iced c o q)).1
  refine ⟨i.len, fun y c q => ?_, i.inj, fun k y q => ?_⟩
  · obtain ⟨o, v, e1, e2⟩ := i.all y c q
    exact ⟨thaw_in e1, v, o, at_ c o e1, e2⟩
  · obtain ⟨c, o, e1, e2, e3⟩ := i.has k y q
    refine ⟨c, e1, fun v hv => ?_⟩
    obtain ⟨u, ru, e4⟩ := e3 v hv
    exact ⟨u, ru, o, at_ c o e2, e4⟩
section
variable {P : Program} {w : World} {K : PySem.W.Frag} {mg : Str → Option Value} {base : Heap} {k : Nat} {f : Addr} {F : NF} {body : Expr} {G : Hp} {N fr : List Str} {ws : List (Option V)} {L : List (Addr × Obj)} {sp : Hp → VK → XK → Prop}
theorem thk_lam (S : NScope N [] fr F.scope) (hb : ∀ pm ctv : Value, bindArgs (PySem.W.kla_fn "<lambda>" F.qual F.params body F.scope F.cl pm (.ref F.c) ctv) ⟨[], []⟩ = pure [])
    (hf : G f = some (LamO f F body)) (hc : G F.c = some (CodeO F.c F.qual)) (C : IceAt G F.cl fr ws L)
    (hbody : ∀ (A : Around) (out : List Env) (st : Shared) (G' : Hp) (Z : VK) (E : XK), Room k (A.deeper (envF F f st.heap.objs.size)) → A.guards = some [] → ExtN G G' → sp G' Z E →
      ∃ t, PE (ncx (L2N.CX P w) P w K mg base N F f A out st (thaw G' L) fun cls d H => Off H L → E cls d (ice H L)) body t ∧ t (startF N [] ws) (thaw G' L) fun v H => Off H L → Z v (ice H L)) :
    Thk P w K mg base (k + 1) f G sp := by
  intro A out st G' Z E hr gs env ext want
  have fO : G' f = some (LamO f F body) := ext f _ hf (fun ps z => nomatch z)
  have cO : G' F.c = some (CodeO F.c F.qual) := ext _ _ hc (fun ps z => codeO_ne ps z)
  obtain ⟨⟨pm, ctv, at_⟩, _, _⟩ := env.hok f _ fO
  obtain ⟨⟨oc, vs, tq, ho, hd, hv⟩, _, _⟩ := env.hok F.c _ cO
  refine ⟨⟨_, _, _, _, at_⟩, ?_⟩
  have C' := C.later ext
  have env' := env_thaw env C'.iced
  obtain ⟨t, der, good⟩ := hbody A out st G' Z E (hr.deeper _) gs ext want
  refine PySem.W.kla_callFunE hr.depth at_ rfl S.co S.gen rfl ⟨F.c, oc, vs, tq, rfl, ho, hd, hv⟩ ?_
  rw [hb]
  refine wpAny_pure (wpAny_newFunctionEnv S.nocell (fun y hy => absurd hy List.not_mem_nil) (fun h1 hns hsb => ⟨(env.mod.nolimit.keeps fun b o q => (env.bs b o q).1).fresh _ hsb, ?_⟩) S.kind)
  have kp : ∀ b o, st.heap.get? b = some o → h1.get? b = some o := fun b o q => hsb.extBut b o (Nat.ne_of_lt (Heap.lt_size q)) (Heap.get?_push_of_some _ q)
  have J : Inv (ncx (L2N.CX P w) P w K mg base N F f A out st (thaw G' L) fun cls d H => Off H L → E cls d (ice H L)) [] (startF N [] ws) (thaw G' L) { st with heap := h1, toks := st.toks + ([] : List (Str × Value)).length } :=
    inv_startN (ps := []) (us := []) S hr.hd env' rfl .nil (C'.cells env.hok) hns kp
  show codeAny _ _ (.expr body (envF F f st.heap.objs.size)) _ _
  refine PySem.W.kla_codeExpr (wpAny_mono (der.run [] _ _ _ _ J good) (fun u st2 fin => ?_) fun er st2 fin => wpAny_mono fin (fun _ st3 c => cx_ice env C'.iced c) fun e3 st3 c => cx_ice env C'.iced c)
  obtain ⟨v, H, J2, rv, z⟩ := fin
  exact ce_ice (Z := Z) env C'.iced ⟨v, H, J2.os, J2.bare, J2.base, J2.hok, rv, z⟩
end
/-! ### the cells of a frame, put into the ice for a call -/
def cellL (h : Heap) (cl : List (Str × Addr)) : List (Addr × Obj) := cl.filterMap fun p => match cl.lookup p.1 with
  | some c => (h.get? c).map fun o => (c, o)
  | none => none
theorem lookup_mem {α β : Type} [BEq α] [LawfulBEq α] {a : α} : ∀ {l : List (α × β)} {b : β}, (a, b) ∈ l → ∃ b', l.lookup a = some b'
  | (x, y) :: r, b, m => by
    by_cases e : a == x
    · exact ⟨y, by simp [List.lookup, e]⟩
    · rcases List.mem_cons.mp m with m | m
      · cases m
        simp at e
      · obtain ⟨b', q⟩ := lookup_mem m
        exact ⟨b', by simp only [List.lookup, e]; exact q⟩
theorem mem_of_look {α β : Type} [BEq α] [LawfulBEq α] {a : α} : ∀ {l : List (α × β)} {b : β}, l.lookup a = some b → (a, b) ∈ l
  | (x, y) :: r, b, q => by
    by_cases e : a == x
    · simp [List.lookup, e] at q
      subst q
      obtain rfl := eq_of_beq e
      exact List.mem_cons_self
    · simp only [List.lookup, e] at q
      exact List.mem_cons_of_mem _ (mem_of_look q)
theorem cellL_of {h : Heap} {cl : List (Str × Addr)} {c : Addr} {o : Obj} (q : (cellL h cl).lookup c = some o) : h.get? c = some o ∧ ∃ y, cl.lookup y = some c := by
  obtain ⟨p, hp, e⟩ := List.mem_filterMap.mp (mem_of_look q)
  cases c1 : cl.lookup p.1 with
  | none =>
    rw [c1] at e
    cases e
  | some a =>
    rw [c1] at e
    cases g : h.get? a with
    | none =>
      simp only [g] at e
      cases e
    | some u =>
      simp only [g, Option.map_some, Option.some.injEq, Prod.mk.injEq] at e
      obtain ⟨rfl, rfl⟩ := e
      exact ⟨g, _, c1⟩
theorem cellL_at {h : Heap} {cl : List (Str × Addr)} {y : Str} {c : Addr} {o : Obj} (q : cl.lookup y = some c) (g : h.get? c = some o) : (cellL h cl).lookup c = some o := by
  have m : (c, o) ∈ cellL h cl := List.mem_filterMap.mpr ⟨(y, c), mem_of_look q, by simp only [q, g]; rfl⟩
  obtain ⟨o', e⟩ := lookup_mem m
  have := (cellL_of e).1
  rw [g] at this
  cases this
  exact e
/-- the cells stand apart from the ground and from the frames -/
def CellNew (X : Cx) : Prop := ∀ y c, X.env.cells.lookup y = some c → X.base.get? c = none ∧ c ∉ X.fs
theorem cellNew {X : Cx} (ok : X.Ok) (h : ∀ y, X.fn y = true) : CellNew X := fun y c q => by
  have le := ok.cab y c (h y) q
  refine ⟨Heap.get?_none_of_le (Nat.le_trans ok.bsz le), fun m => ?_⟩
  obtain ⟨_, o, e, _⟩ := ok.funs.mem m
  exact absurd (Nat.lt_of_lt_of_le (Heap.lt_size e) le) (Nat.lt_irrefl _)
/-- the list L is the cells of X's frame, at slots sg -/
structure IceOf (X : Cx) (sg : L2.St) (G : Hp) (L : List (Addr × Obj)) : Prop where
  all : ∀ y c, X.env.cells.lookup y = some c → ∃ o v, L.lookup c = some o ∧ o.data = .cell v
  inj : ∀ x y c, X.env.cells.lookup x = some c → X.env.cells.lookup y = some c → x = y
  has : ∀ (j : Nat) (y : Str), X.N[j]? = some y → (X.env.scope.names.lookup y = some .cell ∨ X.env.scope.names.lookup y = some .free) → ∃ c o, X.env.cells.lookup y = some c ∧ L.lookup c = some o ∧
    ∀ v, sg[j]? = some (some v) → ∃ u, RelV v u ∧ o.data = .cell (some u)
  free : ∀ b o, L.lookup b = some o → G b = none
theorem iceOf {X : Cx} {pn : List (Addr × Obj)} {sg : L2.St} {G : Hp} {st : Shared} (J : Inv X pn sg G st) : IceOf X sg G (cellL st.heap X.env.cells) ∧ Bare G st.heap (cellL st.heap X.env.cells) := by
  refine ⟨⟨fun y c q => ?_, J.ok.inj, fun j y hN k => ?_, fun b o q => ?_⟩, fun b o q => ?_⟩
  · obtain ⟨v, o, ho, hd⟩ := J.cell y c q
    exact ⟨o, v, cellL_at q ho, hd⟩
  · obtain ⟨c, hc⟩ := J.ok.has y k
    obtain ⟨v0, o, ho, hd⟩ := J.cell y c hc
    refine ⟨c, o, hc, cellL_at hc ho, fun v hv => ?_⟩
    obtain ⟨m, hn, hl⟩ := J.loc
    obtain ⟨u, ru, lk⟩ := hl j y v hN hv (k.elim (fun z => .inr (.inl z)) fun z => .inr (.inr z))
    rcases lk with ⟨z, _⟩ | ⟨_, c2, hc2, o2, ho2, hd2⟩
    · have z' : X.env.scope.names.lookup y = some .local := z
      rcases k with k | k <;> rw [k] at z' <;> cases z'
    · rw [hc] at hc2
      cases hc2
      rw [ho] at ho2
      cases ho2
      exact ⟨u, ru, hd2⟩
  · obtain ⟨_, y, e⟩ := cellL_of q
    exact J.freeC y b e
  · obtain ⟨g, y, e⟩ := cellL_of q
    exact ⟨g, J.freeC y b e⟩
/-- a lambda's captured cells, out of those of the frame -/
theorem IceOf.lam {X : Cx} {sg : L2.St} {G G' : Hp} {L : List (Addr × Obj)} {scope : Scope} {fr : List Str} {js : List Nat} (i : IceOf X sg G L) (c : Caps X (cloFrom X.env.cells scope.names []) fr js) (h : Iced G' L) :
    IceAt G' (cloFrom X.env.cells scope.names []) fr (js.map (slotAt sg)) L := by
  have at_ := c.at_
  refine ⟨?_, fun y a q => i.all y a (c.sub y a q), fun x y a q1 q2 => i.inj x y a (c.sub x a q1) (c.sub y a q2), fun k y q => ?_, h⟩
  · have e := congrArg List.length at_
    rw [List.length_map, List.length_map] at e
    rw [List.length_map]
    exact e
  · have e2 : (js.map fun j => X.N[j]?)[k]? = some (some y) := by
      rw [at_, List.getElem?_map, q]
      rfl
    rw [List.getElem?_map] at e2
    cases ej : js[k]? with
    | none =>
      rw [ej] at e2
      cases e2
    | some j =>
      rw [ej] at e2
      have hN : X.N[j]? = some y := Option.some.inj e2
      obtain ⟨a, o, e3, e4, e5⟩ := i.has j y hN (c.kin y (List.mem_of_getElem? q))
      refine ⟨a, o, c.sup y (List.mem_of_getElem? q) a e3, e4, fun v hv => e5 v (slotAt_some ?_)⟩
      rw [List.getElem?_map, ej] at hv
      exact Option.some.inj hv
/-- f(..), run in the ice of the frame's cells -/
def tIce (X : Cx) (sp : Sp) (dvs : List V) (t : TA) : TE := fun sg G Z => t sg G fun vs G1 => ∀ L, X.Ok → IceOf X sg G1 L → sp (vs ++ dvs) (ice G1 L) (fun v H => Z v (thaw H L)) E0
theorem pe_callIce {X : Cx} {n : Nat} {f : Addr} {fd : FuncData} {ps : List Str} {sp : Sp} {dvs : List V} {ds : List Value} {x : Str} {e : Expr} {es : List Expr} {t : TA} {p pos : Pos}
    (F : FnG X.prog X.w X.K X.mg X.base CX0 n f fd ps sp) (hr : Room n X.A) (gs : X.A.guards = some []) (nw : X.Ok → CellNew X) (hg : Gl X x) (hm : X.mg x = some (.ref f)) (hk : PySem.W.keepIn X.K (.ref f) = true) (hb : Binds X.K fd ps ds) (hd : Vals dvs ds)
    (ha : PA X (e :: es) t) (hdb : (x == ("__debug__" : Str)) = false := by decide)
    (he : starEach (e :: es) X.env = (false, eval e X.env) :: starEach es X.env := by rfl) (hpl : (backTo pos (starEach es X.env)).any (·.1) = false := by rfl) :
    PE X (.Call (.Name x p) (e :: es) [] pos) (tIce X sp dvs t) := by
  refine ⟨fun pn st sg G Z J h => wpAny_Call_Name_kw (ld_glob J hg hm (PySem.W.callWith_K (h₀ := X.base) J.ok.mod.kin hk ?_ he hpl) hdb)⟩
  refine thn (ha.run pos pn st sg G _ J h) fun us st1 ⟨vs, G1, J1, rel, want⟩ => ⟨J1.kIn, wpAny_call ?_⟩
  have rel2 : Vals (vs ++ dvs) (us ++ ds) := rel.append hd
  obtain ⟨io, bare⟩ := iceOf J1
  have go := want _ J1.ok io
  have sz : (us ++ ds).length = ps.length := rel2.length.symm.trans (F.len _ _ _ _ go)
  have n1 : ∀ b o, (cellL st1.heap X.env.cells).lookup b = some o → X.base.get? b = none ∧ b ∉ frs X.stack := fun b o q => by
    obtain ⟨_, y, e1⟩ := cellL_of q
    obtain ⟨z1, z2⟩ := nw J1.ok y b e1
    refine ⟨z1, fun m => ?_⟩
    rcases List.mem_cons.mp (J1.stkSub b m) with z | z
    · exact J1.cne y b e1 z
    · exact z2 z
  refine codeAny_mono (F.run X.A X.stack st1 _ ⟨us, []⟩ (us ++ ds) (vs ++ dvs) _ E0 hr gs (env_ice J1.env0 bare n1) (hb st1 us J1.kIn sz) rel2 go) fun r st2 fin => ?_
  cases r with
  | error er => exact fin.elim
  | ok fl =>
    cases fl with
    | ret u =>
      obtain ⟨v, H, os, ag, un, ok, rv, z⟩ := fin
      exact J1.after ⟨v, thaw H _, os, ag, un_thaw un bare ok, thaw_ok ok (iced_after un), rv, z⟩
    | next => exact fin.elim
    | brk => exact fin.elim
    | cont => exact fin.elim
end Fs

namespace Fs
open PySem PySem.Spec PyProof.Rows L2 LamX NdefX
/-! ### a lambda is made -/
def tLamb (T : List (Addr × Str)) (mk : Addr → NF) (body : Expr) : TE := fun sg G Z => Tabs T G ∧ ∀ (f c' : Addr) (G1 : Hp), ExtN G G1 → (∀ b, G1 b = none → G b = none) → Tabs T G1 → G f = none → G1 f = some (LamO f (mk c') body) →
  G1 c' = some (CodeO c' (mk c').qual) → Z (.ref f) G1
theorem lamO_ne {f : Addr} {F : NF} {body : Expr} (ps : Array Value) : LamO f F body ≠ .tbl ps := fun z => by
  unfold LamO at z
  cases z
section
variable {X : Cx} {pn : List (Addr × Obj)} {sg : L2.St} {G : Hp} {st : Shared}
theorem inv_lamb {F : NF} {body : Expr} {pm ctv : Value} {t : Nat} (J : Inv X pn sg G st) :
    Inv X pn sg (upd G st.heap.objs.size (LamO st.heap.objs.size F body)) { st with heap := st.heap.push (PySem.W.kla_obj "<lambda>" F.qual F.params body F.scope F.cl pm F.c ctv), toks := t } := by
  have at_ : (st.heap.push (PySem.W.kla_obj "<lambda>" F.qual F.params body F.scope F.cl pm F.c ctv)).get? st.heap.objs.size = some (PySem.W.kla_obj "<lambda>" F.qual F.params body F.scope F.cl pm F.c ctv) := Heap.get?_push_size _ rfl
  exact J.laid (fun _ _ q => Heap.get?_push_of_some _ q) (Nat.le_refl _) ⟨⟨pm, ctv, at_⟩, ⟨_, at_⟩, fun _ _ ⟨p1, p2, e⟩ k => ⟨p1, p2, k _ e⟩⟩
theorem pe_lamb {T : List (Addr × Str)} {c D : Addr} {params : Arguments} {body : Expr} {scope : Scope} {pos : Pos} (TB : TabB X.base X.mg c D) (hcode : X.env.code = .ref c) (hm : (D, X.env.qual ++ "<lambda>") ∈ T) (hu : ∀ p ∈ T, p.1 = D → p.2 = X.env.qual ++ "<lambda>")
    (hfree : ∀ y ∈ scope.names, y.2 = .free → X.env.scope.names.lookup y.1 = some .cell ∨ X.env.scope.names.lookup y.1 = some .free) (hdef : defaultsOf params X.env = ([], []) := by rfl) :
    PE X (.Lambda params body scope pos) (tLamb T (fun c' => ⟨"<lambda>", X.env.qual ++ "<lambda>", params, [], scope, cloFrom X.env.cells scope.names [], c'⟩) body) := by
  refine ⟨fun pn st sg G Z J want => ?_⟩
  obtain ⟨hT, want⟩ := want
  obtain ⟨ps, hD, tri, told⟩ := hT _ hm
  have caps : ∀ y ∈ scope.names, y.2 = .free → ∃ a, X.env.cells.lookup y.1 = some a := fun y hy e => (hfree y hy e).elim (fun z => J.ok.has _ (.inl z)) fun z => J.ok.has _ (.inr z)
  have bD : st.heap.BuiltinsAt X.mg D := TB.bm.keeps J.bk
  have hD' : st.heap.get? D = some { cls := .none, data := .fields ps } := J.hok D _ hD
  refine PySem.W.kla_eval hdef ?_
  cases look : codeAmong pos ps.toList with
  | some cv =>
    obtain ⟨c', rfl, hco⟩ := told pos cv look
    refine PySem.W.kla_makeFunctionHit (mg := X.mg) (c := c) (P := D) (ps := ps) (closure_ok caps) J.ok.glob (J.mod.glob.keeps J.bk) hcode (TB.code.keeps J.bk) hD' tri look bD fun ctv h1 tk kp le => ?_
    have J1 : Inv X pn sg G { st with heap := h1, toks := tk } := J.kept kp
    have nf : G h1.objs.size = none := J1.hok.fresh (Nat.le_refl _)
    have J2 := inv_lamb (F := ⟨"<lambda>", X.env.qual ++ "<lambda>", params, [], scope, cloFrom X.env.cells scope.names [], c'⟩) (body := body) (pm := (X.mg "__name__").getD .none) (ctv := ctv) (t := tk) J1
    have grow : ∀ b o, G b = some o → (upd G h1.objs.size (LamO h1.objs.size ⟨"<lambda>", X.env.qual ++ "<lambda>", params, [], scope, cloFrom X.env.cells scope.names [], c'⟩ body)) b = some o := fun b o q => (upd_ne (ne_of_none q nf)).trans q
    exact ⟨.ref h1.objs.size, _, J2, rfl, want _ c' _ (ExtN.of grow) (fun b q => upd_none q) (hT.ext grow) nf upd_same (grow _ _ hco)⟩
  | none =>
    refine PySem.W.kla_makeFunction (mg := X.mg) (c := c) (P := D) (ps := ps) (closure_ok caps) J.ok.glob (J.mod.glob.keeps J.bk) hcode (TB.code.keeps J.bk) hD' tri look TB.gP bD fun c' ctv h1 tk ext le lt rec_ tab => ?_
    obtain ⟨c2, oc, vs, t, e2, hoc, hd, hv⟩ := rec_
    cases e2
    have nC : G c' = none := J.hok.fresh le
    have J1 := inv_table (t' := tk) (q := X.env.qual ++ "<lambda>") (more := #[rawInt pos.line, rawInt pos.col, .ref c']) (h' := h1) J hD (fun b o hbody q => ext b o hbody q) tab le ⟨oc, vs, t, hoc, hd, hv⟩
    have ne : ∀ b o, G b = some o → (∀ qs, o ≠ .tbl qs) → b ≠ D := fun b o q n z => n ps (Option.some.inj (q.symm.trans (z ▸ hD)))
    have far : ∀ b o, G b = some o → (∀ qs, o ≠ .tbl qs) → (upd (upd G D (.tbl (ps ++ #[rawInt pos.line, rawInt pos.col, .ref c']))) c' (CodeO c' (X.env.qual ++ "<lambda>"))) b = some o := fun b o q n => by
      rw [upd_ne (ne_of_none q nC), upd_ne (ne b o q n)]
      exact q
    have listed : (ps ++ #[rawInt pos.line, rawInt pos.col, .ref c']).toList = ps.toList ++ [rawInt pos.line, rawInt pos.col, .ref c'] := by simp
    have T1 : Tabs T (upd (upd G D (.tbl (ps ++ #[rawInt pos.line, rawInt pos.col, .ref c']))) c' (CodeO c' (X.env.qual ++ "<lambda>"))) := fun p hp => by
      by_cases e : p.1 = D
      · refine ⟨_, by rw [e, upd_ne (ne_of_none hD nC), upd_same], by rw [listed]; exact PySem.TriplesOk_snoc _ _ _ _ tri, fun q cv hcv => ?_⟩
        rw [listed] at hcv
        rw [hu p hp e]
        rcases among_app _ tri hcv with z | z
        · obtain ⟨c0, e1, e2⟩ := told q cv z
          exact ⟨c0, e1, far _ _ e2 codeO_ne⟩
        · exact ⟨c', z, upd_same⟩
      · obtain ⟨qs, a1, a2, a3⟩ := hT p hp
        refine ⟨qs, by rw [upd_ne (ne_of_none a1 nC), upd_ne e]; exact a1, a2, fun q cv hcv => ?_⟩
        obtain ⟨c0, e1, e2⟩ := a3 q cv hcv
        exact ⟨c0, e1, far _ _ e2 codeO_ne⟩
    have nf := J1.hok.fresh (Nat.le_refl _)
    have J2 := inv_lamb (F := ⟨"<lambda>", X.env.qual ++ "<lambda>", params, [], scope, cloFrom X.env.cells scope.names [], c'⟩) (body := body) (pm := (X.mg "__name__").getD .none) (ctv := ctv) (t := tk) J1
    have grow : ∀ b o, (upd (upd G D (.tbl (ps ++ #[rawInt pos.line, rawInt pos.col, .ref c']))) c' (CodeO c' (X.env.qual ++ "<lambda>"))) b = some o →
        (upd (upd (upd G D (.tbl (ps ++ #[rawInt pos.line, rawInt pos.col, .ref c']))) c' (CodeO c' (X.env.qual ++ "<lambda>"))) h1.objs.size (LamO h1.objs.size ⟨"<lambda>", X.env.qual ++ "<lambda>", params, [], scope, cloFrom X.env.cells scope.names [], c'⟩ body)) b = some o := fun b o q => (upd_ne (ne_of_none q nf)).trans q
    exact ⟨.ref h1.objs.size, _, J2, rfl, want _ c' _ (fun b o q n => grow b o (far b o q n)) (fun b q => upd_none (upd_none (upd_none q))) (T1.ext grow) (J.hok.fresh (Nat.le_trans le (Nat.le_of_lt lt))) upd_same (grow _ _ upd_same)⟩
end
/-! ### except (c1, c2, c3) as n -/
theorem fly_keeps {B h h' : Heap} {l : List Env} {e : Addr} {Y : Obj → Prop} (k : ∀ b o, h.get? b = some o → h'.get? b = some o) (x : HandSPX.FlyingZ B l e Y h) : HandSPX.FlyingZ B l e Y h' := by
  obtain ⟨f1, f2, f3, oe, vs, T, oT, ts, g1, g2, g3, g4, g5, g6, g7, g8, g9⟩ := x
  exact ⟨fun b o q => k b o (f1 b o q), f2, f3.of_keeps fun b o q _ => ⟨o, k b o q, rfl⟩, oe, vs, T, oT, ts, k _ _ g1, g2, g3, g4, g5, g6, k _ _ g7, g8, g9⟩
def gone (D : Ends) (i : Nat) : Ends := { nx := fun sg G => D.nx (sg.set i none) G, rt := D.rt, bk := fun sg G => D.bk (sg.set i none) G, ct := fun sg G => D.ct (sg.set i none) G }
def wAs3 (K : PySem.W.Frag) (cs : List Value) (i : Nat) (ts : Addr → Value → Option Addr → TS) (D : Ends) : WX := fun cls d sg G =>
  PySem.W.exmAny K cls cs = some true ∧ ∀ a, G a = none → ts a cls d (gone D i) (sg.set i (some (.ref a))) G
section
variable {X : Cx} {x1 x2 x3 n : Str} {c1 c2 c3 : Value} {i kk : Nat} {body suite : List Stmt} {b0 : Stmt} {p1 p2 p3 tp pos pos' : Pos} {tb : WX → TS} {ts : Addr → Value → Option Addr → TS}
theorem ps_try_as3 (hs : X.stack = X.env :: X.outer) (hf : X.env.frame = some X.env.locals) (hN : X.N.Nodup) (hi : X.N[i]? = some n) (hln : X.env.kindOf n = some .local) (m1 : Names X x1 c1) (m2 : Names X x2 c2) (m3 : Names X x3 c3)
    (hbody : ∀ (W : WX) (pn : List (Addr × Obj)) (xe : Value → Shared → Prop), L2N.Takes (X.tr pn xe) W → PassesOwn (model X.prog X.w) X.A X.env xe → PSs (X.tr pn xe) body (tb W))
    (hsu : ∀ (a : Addr) (oe : Obj) (cls : Value) (d : Option Addr) (pn : List (Addr × Obj)), L2N.Zn cls d oe → (∃ vs, oe.data = .fields vs) → PSs (X.suite a ((a, oe) :: pn)) (b0 :: suite) (ts a cls d)) :
    PS X (.Try body [.ExceptHandler (some (.Tuple [.Name x1 p1, .Name x2 p2, .Name x3 p3] kk tp)) (some n) (b0 :: suite) pos'] [] [] pos) (fun D sg G => tb (wAs3 X.K [c1, c2, c3] i ts D) D sg G) := by
  refine ⟨fun pn st sg G D J want => ?_⟩
  have ok := J.ok
  have frm : X.A.frames = some (X.env :: X.outer) := by rw [ok.frames, hs]
  refine wpAny_Try_except ?_
  refine wpAny_mono ((hbody (wAs3 X.K [c1, c2, c3] i ts D) (X.pn ++ pn) (fun e s1 => wpAny (model X.prog X.w) X.A (noteFrame e X.env) (fun _ s2 => wpAny (model X.prog X.w) X.A (setFlight e none) (fun _ s3 =>
    wpAny (model X.prog X.w) X.A (handleBy e X.env [.ExceptHandler (some (.Tuple [.Name x1 p1, .Name x2 p2, .Name x3 p3] kk tp)) (some n) (b0 :: suite) pos']) (SP X pn D) X.xe s3) X.xe s2) X.xe s1) (fun u s1 xx => ?_) PassesOwn.looking).run [] st sg G D (J.toTry _) want) (fun fl s1 sp => ?_) (fun e s1 z => z)
  · obtain ⟨a, B, sI, pn1, sg1, G1, cls, d, rfl, J1, nb, up, sky, na, os, ag, caught, go⟩ := xx
    have J2 : Inv X pn sg1 G1 sI := J1.ofTry ok
    have sky1 : Sky B (X.env :: X.outer) a (L2N.Zn cls d) X.env.locals s1.heap := by rw [← hs]; exact sky
    show wpAny (model X.prog X.w) X.A (noteFrame (.ref a) X.env) _ _ _
    refine L2N.Sky.land L2N.Zn.steady frm hf sky1 fun h3 fl3 up3 => ?_
    have J3 : Inv X pn sg1 G1 { s1 with heap := h3 } := J2.landed nb fl3.1 (up.trans up3) os ag
    obtain ⟨ob3, ws3, at3, zc3, dat3⟩ := fl3.there
    have off : ∀ {h : Heap} {o : Obj} {vs : Array Value}, h.FunFrames B (X.env :: X.outer) → h.get? a = some o → o.data = .fields vs → a ∉ frs (X.env :: X.outer) := fun {h o vs} ff e dd hm => by
      obtain ⟨_, o', e', nof⟩ := ff.mem hm
      rw [e] at e'
      cases e'
      exact nof _ dd
    have offr := off fl3.2.2.1 at3 dat3
    have offL : a ≠ X.env.locals := fun z => offr (List.mem_filterMap.mpr ⟨X.env, List.mem_cons_self, by rw [hf, z]⟩)
    have offF : a ∉ X.fs := fun hm => by
      obtain ⟨e, he, q⟩ := List.mem_filterMap.mp hm
      exact offr (List.mem_filterMap.mpr ⟨e, List.mem_cons_of_mem _ he, q⟩)
    have su3 := J3.suite at3 dat3 na offL offF
    refine wpAny_handleBy_cons (codeAny_handlers_test ?_) (by intro q; cases q)
    have lty : PySem.W.Looks (model X.prog X.w) h3 (typeOf (.ref a)) cls := fun A Q E s k q => wpAny_typeOf_ref (k _ _ at3) (by rw [zc3.1]; exact q)
    have name : ∀ {x : Str} {c : Value} {np : Pos} {Q : Value → Shared → Prop} {E : Value → Shared → Prop}, Names X x c → Q c { s1 with heap := h3 } → wpAny (model X.prog X.w) (X.A.mark (some (.ref a))) (eval (.Name x np) X.env) Q E { s1 with heap := h3 } := fun {x c np Q E} m q => by
      obtain ⟨hg, hdbg, hm | ⟨hm, hv, hnn⟩⟩ := m
      · exact ld_glob (X := X.suite a ((a, ob3) :: (X.pn ++ pn))) su3 hg hm q hdbg
      · exact ld_blt (X := X.suite a ((a, ob3) :: (X.pn ++ pn))) su3 hg hm hv q hnn hdbg
    refine wpAny_Tuple ?_
    refine wpAny_items_cons (name m1 ?_)
    refine wpAny_items_cons (name m2 ?_)
    refine wpAny_items_cons (name m3 ?_)
    refine wpAny_items_nil ⟨by size_fits, ?_⟩
    have kp : ∀ b o, h3.get? b = some o → (h3.push { cls := .type "tuple", data := .seq [c1, c2, c3].toArray }).get? b = some o := fun _ _ z => Heap.get?_push_of_some _ z
    refine (PySem.W.exm_tup3 (M := model X.prog X.w) (J3.kIn.keeps kp) (lty.keeps kp) (Heap.get?_push_size h3 rfl) caught).here ?_
    refine codeAny_handlers_suite_as ?_
    refine HandSPX.lands_againZ (fly_keeps kp fl3) fun h4 fl4 up4 => ?_
    have up34 : h3.UpToSlots h4 := (Heap.UpToSlots.of_keeps kp).trans up4
    have J4 : Inv X pn sg1 G1 { s1 with heap := h4 } := J2.landed nb fl4.1 ((up.trans up3).trans up34) os ag
    obtain ⟨ob4, ws4, at4, zc4, dat4⟩ := fl4.there
    have su4 := J4.suite at4 dat4 na offL offF
    refine store_ok (X := X.suite a ((a, ob4) :: (X.pn ++ pn))) (v := .ref a) su4 hN hi (.inl hln) rfl (fun s5 S5 => ?_) (.inr hln)
    refine wpAny_mono ((hsu a ob4 cls d (X.pn ++ pn) zc4 ⟨_, dat4⟩).run [] s5 _ G1 _ S5 (go a na)) (fun fl s6 fin => ?_) (fun _ _ z => False.elim z)
    have done : ∀ {sg6 : L2.St} {G6 : Hp} {Q : Shared → Prop}, Inv (X.suite a ((a, ob4) :: (X.pn ++ pn))) [] sg6 G6 s6 → (∀ s7, Inv X pn (sg6.set i none) G6 s7 → Q s7) →
        wpAny (model X.prog X.w) X.A (do bindName X.env n .none; unbindBehindTheSuite X.env n pos') (fun _ s7 => Q s7) X.xe s6 := fun {sg6 G6 Q} S6 hq => gone_ok (S6.unsuite ok) hN hi hln hq
    cases fl with
    | next =>
      obtain ⟨sg6, G6, S6, q6⟩ := fin
      exact done S6 fun s7 J7 => ⟨_, _, J7, q6⟩
    | brk =>
      obtain ⟨sg6, G6, S6, q6⟩ := fin
      exact done S6 fun s7 J7 => ⟨_, _, J7, q6⟩
    | cont =>
      obtain ⟨sg6, G6, S6, q6⟩ := fin
      exact done S6 fun s7 J7 => ⟨_, _, J7, q6⟩
    | ret u =>
      obtain ⟨v6, sg6, G6, S6, r6, q6⟩ := fin
      exact done S6 fun s7 J7 => ⟨_, _, _, J7, r6, q6⟩
  · cases fl with
    | next =>
      obtain ⟨sg2, G2, J2, q⟩ := sp
      exact wpAny_execs_nil ⟨sg2, G2, J2.ofTry ok, q⟩
    | brk =>
      obtain ⟨sg2, G2, J2, q⟩ := sp
      exact ⟨sg2, G2, J2.ofTry ok, q⟩
    | cont =>
      obtain ⟨sg2, G2, J2, q⟩ := sp
      exact ⟨sg2, G2, J2.ofTry ok, q⟩
    | ret u =>
      obtain ⟨v, sg2, G2, J2, r, q⟩ := sp
      exact ⟨v, sg2, G2, J2.ofTry ok, r, q⟩
end
end Fs

namespace Fs
open PySem PySem.Spec PyProof.Rows L2 LamX NdefX
/-! ### a def that may raise -/
theorem okX {P : Program} {w : World} {K : PySem.W.Frag} {mg : Str → Option Value} {base : Heap} {x qual : Str} {sd : Stmt} {f : Addr} {fd : FuncData} {N ps : List Str} {k : Nat} {sp : Sp} (F : Fun K x qual sd f fd) (S : FnScope N ps (defScope sd)) (len : ∀ vs G Z E, sp vs G Z E → vs.length = ps.length)
    (hbody : ∀ (cdv : Value) (A : Around) (out : List Env) (st : Shared) (G : Hp) (vs : List V) (Z : VK) (E : XK), Room k (A.deeper (envOfC qual (defScope sd) st.heap.objs.size f cdv)) → sp vs G Z E →
      ∃ t, PSs (cxOf (L2N.CX P w) P w K mg base N qual (defScope sd) f cdv A out st G E) (defBody sd) t ∧ t { nx := fun _ G' => Z .non G', rt := Z } (start N vs) G) : FnOk P w K mg base (L2N.CX P w) (k + 1) f fd ps sp := by
  obtain ⟨oc, od, kV, doc, pm, an, cdv, ct, osl, rfl, lk, code⟩ := F.ex
  exact fn_of lk code S len fun A out st G vs Z E hr h => hbody cdv A out st G vs Z E hr h
theorem takes_cx {P : Program} {w : World} {K : PySem.W.Frag} {mg : Str → Option Value} {base : Heap} {N : List Str} {qual : Str} {sc : Scope} {f : Addr} {cdv : Value} {A : Around} {out : List Env} {st : Shared} {G : Hp} {E : XK} :
    L2N.Takes (cxOf (L2N.CX P w) P w K mg base N qual sc f cdv A out st G E) (fun cls d _ H => E cls d H) := L2N.takes_of rfl rfl rfl rfl
theorem passes_cx {P : Program} {w : World} {K : PySem.W.Frag} {mg : Str → Option Value} {base : Heap} {N : List Str} {qual : Str} {sc : Scope} {f : Addr} {cdv : Value} {A : Around} {out : List Env} {st : Shared} {G : Hp} {E : XK} :
    Passes (L2N.CX P w) (cxOf (L2N.CX P w) P w K mg base N qual sc f cdv A out st G E) E := L2N.passes_call takes_cx fun _ _ _ _ h => h
theorem takes_nc {P : Program} {w : World} {K : PySem.W.Frag} {mg : Str → Option Value} {base : Heap} {N : List Str} {F : NF} {f : Addr} {A : Around} {out : List Env} {st : Shared} {G : Hp} {E : XK} :
    L2N.Takes (ncx (L2N.CX P w) P w K mg base N F f A out st G E) (fun cls d _ H => E cls d H) := L2N.takes_of rfl rfl rfl rfl
theorem passes_nc {P : Program} {w : World} {K : PySem.W.Frag} {mg : Str → Option Value} {base : Heap} {N : List Str} {F : NF} {f : Addr} {A : Around} {out : List Env} {st : Shared} {G : Hp} {E : XK} :
    Passes (L2N.CX P w) (ncx (L2N.CX P w) P w K mg base N F f A out st G E) E := L2N.passes_call takes_nc fun _ _ _ _ h => h
/-! ### isinstance(e, C) and e.n in the suite that holds e -/
def rIsX (K : PySem.W.Frag) (a : Addr) (cls : Value) (d : Option Addr) : List V → Hp → VK → Prop := fun xs G Z => ∃ (D : Addr) (c : V) (cv : Value) (b : Bool), cls = .ref D ∧ ExcC K D ∧ xs = [.ref a, c] ∧ (∀ u, RelV c u → u = cv) ∧
  PySem.W.kitOne K (.ref D) cv = some b ∧ (∀ dd, d = some dd → ∃ fs, G dd = some (.xd fs)) ∧ Z (.bl b) G
theorem call_isX {X : Cx} {a : Addr} {oe : Obj} {cls : Value} {d : Option Addr} {pn : List (Addr × Obj)} (hz : Zc cls d oe) (hf : ∃ vs, oe.data = .fields vs) : CallR (X.suite a ((a, oe) :: pn)) (.builtin "isinstance") (rIsX X.K a cls d) := by
  intro pins st sg G xs us Z J rel ⟨D, c, cv, b, ec, C, ex, hcv, kit, hd, z⟩
  subst ec
  subst ex
  cases rel with
  | cons rx rr =>
    cases rr with
    | cons rt rr =>
      cases rr
      cases rx
      have e1 := hcv _ rt
      subst e1
      obtain ⟨at_, _⟩ := J.pin (a, oe) (List.mem_append.mpr (.inl List.mem_cons_self))
      obtain ⟨vs, hv⟩ := hf
      obtain ⟨oc, od, oda, osl⟩ := oe
      obtain ⟨z1, z2⟩ := hz
      dsimp only at z1 z2 hv
      subst z1 z2 hv
      have inst : ∃ od2 : Option Obj, PySem.W.InstAt st.heap a ⟨.ref D, od, .fields vs, osl⟩ D od2 := by
        cases od with
        | none => exact ⟨none, at_, rfl, rfl, True.intro⟩
        | some dd =>
          obtain ⟨fs, e2⟩ := hd dd rfl
          obtain ⟨mA, ⟨o2, es, ep, e3, _⟩, _⟩ := (show ObjOk X.prog X.w G st.heap dd (.xd fs) from J.hok dd _ e2)
          exact ⟨some o2, at_, rfl, rfl, e3⟩
      obtain ⟨od2, inst⟩ := inst
      obtain ⟨cd, hc, _⟩ := PySem.W.any_some C.hd
      exact PySem.W.kia_one (PySem.W.kitx_exc (by rw [hc]; rfl) C.hg C.hk C.hs C.ha C.hn C.ht C.hm) J.kIn inst kit (fun z => nomatch z) fun tk => ⟨.bl b, G, J.kept (t' := tk) fun _ _ z => z, rfl, z⟩
def tXf2 (K : PySem.W.Frag) (a : Addr) (cls : Value) (d : Option Addr) (n : Str) (te : TE) : TE := fun sg G Z => te sg G fun x G1 => x = .ref a ∧ ∃ (C dd : Addr) (fs : List (Str × V)) (v : V), cls = .ref C ∧ XfC K C ∧ PySem.W.findIn K (.ref C) n = some none ∧
  d = some dd ∧ G1 dd = some (.xd fs) ∧ fs.lookup n = some v ∧ Z v G1
theorem pe_xf2 {X : Cx} {a : Addr} {oe : Obj} {cls : Value} {d : Option Addr} {pn : List (Addr × Obj)} {e : Expr} {te : TE} {pos : Pos} {n : Str} (hz : Zc cls d oe) (hf : ∃ vs, oe.data = .fields vs) (he : PE (X.suite a ((a, oe) :: pn)) e te) (hb : attributeBase e n X.env (eval e X.env) = eval e X.env := by rfl) :
    PE (X.suite a ((a, oe) :: pn)) (.Attribute e n pos) (tXf2 X.K a cls d n te) := by
  refine ⟨fun pins st sg G Z J want => ?_⟩
  refine attr_of hb (thn (he.run pins st sg G _ J want) fun u st1 fin => ?_)
  obtain ⟨x, G1, J1, rx, rfl, C, dd, fs, v, rfl, T, hno, rfl, ed, l, z⟩ := fin
  cases rx
  obtain ⟨at_, _⟩ := J1.pin (a, oe) (List.mem_append_left _ List.mem_cons_self)
  obtain ⟨vs, hv⟩ := hf
  obtain ⟨mA, hns, hr⟩ := (show ObjOk X.prog X.w G1 st1.heap dd (.xd fs) from J1.hok dd _ ed)
  obtain ⟨od, ho, hl⟩ := lookIn_ns hns
  obtain ⟨u, hu, ru⟩ := RelO.some_of (v := v) (o := mA n) (by rw [← l]; exact hr n)
  have inst : PySem.W.InstAt st1.heap a oe C (some od) := ⟨at_, hz.1, by unfold PySem.W.notCls; rw [hv] <;> rfl, by rw [hz.2]; exact ho⟩
  exact HandSPX.exc_get J1.kIn inst T.ga T.gg T.exC (PySem.W.findObj_own T.hdC hno rfl (by rw [hl, hu])) (handed_of ru) ⟨v, G1, J1.tok _, ru, z⟩
/-! ### repr of any data -/
def reprV (K : PySem.W.Frag) : List V → Hp → VK → Prop := fun xs G Z => ∃ (v : V) (d : PyData), xs = [v] ∧ Dp K G v d ∧ d.showable = true ∧ SeqAt.shaped d = true ∧ d.shown.length ≤ sizeLine ∧ (∀ i, v = .int i → i.natAbs.log2 < 1920) ∧ Z (.str d.shown) G
theorem call_reprV {X : Cx} (room : X.A.units + 65 < cLine) (hg : X.A.guards = some []) : CallR X (.builtin "repr") (reprV X.K) := by
  intro ps st sg G xs us Z J r ⟨v, d, e, h, s1, s2, hz, hi, z⟩
  subst e
  cases r with
  | cons rv rr =>
    cases rr
    have fin : ∀ {h' : Heap} {u : Tok} {tk : Nat}, (∀ b o, st.heap.get? b = some o → h'.get? b = some o) → EP X ps sg Z (.str d.shown u) { st with heap := h', toks := tk } := fun k => ⟨.str _, G, J.kept k, ⟨_, rfl⟩, z⟩
    obtain ⟨as, r1⟩ := Dp.reads J d v _ h rv
    have hd := SeqAt.depth_of_shaped s2
    cases h with
    | non =>
      cases rv
      exact PySem.P.repr_of_none (fin fun _ _ q => q)
    | bl b =>
      cases rv
      cases b <;> exact PySem.P.repr_of_bool (fin fun _ _ q => q)
    | int i =>
      obtain ⟨t, rfl⟩ := rv
      exact PySem.P.repr_of_int (hi i rfl) (fin fun _ _ q => q)
    | str y =>
      obtain ⟨t, rfl⟩ := rv
      exact PySem.P.repr_of_str (fin fun _ _ q => q) hz
    | tup q w =>
      cases rv
      exact repr_of_reads' r1 s1 (PyData.noDict_hsm (PyData.hasDict_of_canLay _ (SeqAt.canLay_of_shaped s2))) hg (by omega) (fun _ _ q => q) (fun h' u tk hk => fin hk) hz
    | lst q w =>
      cases rv
      exact repr_of_reads' r1 s1 (PyData.noDict_hsm (PyData.hasDict_of_canLay _ (SeqAt.canLay_of_shaped s2))) hg (by omega) (fun _ _ q => q) (fun h' u tk hk => fin hk) hz
/-! ### what stays while tables grow -/
section
variable {K : PySem.W.Frag} {G G' : Hp} {a : Addr} {xs : List V}
theorem extN_of (s : Same G G') : ExtN G G' := ExtN.of s
theorem ext_seqT (e : ExtN G G') (h : SqT K G a xs) : SqT K G' a xs := by
  rcases h with (h | ⟨o, h⟩) | h
  · exact .inl (.inl (e _ _ h fun ps z => nomatch z))
  · exact .inl (.inr ⟨o, e _ _ h fun ps z => nomatch z⟩)
  · exact .inr h
theorem ext_seqL (e : ExtN G G') (h : SqL K G a xs) : SqL K G' a xs := by
  rcases h with (h | ⟨o, h⟩) | h
  · exact .inl (.inl (e _ _ h fun ps z => nomatch z))
  · exact .inl (.inr ⟨o, e _ _ h fun ps z => nomatch z⟩)
  · exact .inr h
theorem ext_ty {v : V} {t : Value} (e : ExtN G G') (h : TyX K G v t) : TyX K G' v t := by
  cases h with
  | base b =>
    refine .base ?_
    cases b with
    | non => exact .non
    | bl y => exact .bl y
    | int y => exact .int y
    | str y => exact .str y
    | flt y => exact .flt y
    | lst q => exact .lst (e _ _ q fun ps z => nomatch z)
    | frz q => exact .frz (e _ _ q fun ps z => nomatch z)
    | tup q => exact .tup (e _ _ q fun ps z => nomatch z)
    | dK q => exact .dK (e _ _ q fun ps z => nomatch z)
    | dT q => exact .dT (e _ _ q fun ps z => nomatch z)
    | ins q k1 k2 k3 k4 k5 => exact .ins (e _ _ q fun ps z => nomatch z) k1 k2 k3 k4 k5
  | byt b => exact .byt b
  | set q => exact .set (e _ _ q fun ps z => nomatch z)
  | kList q c => exact .kList q c
  | kTuple q c => exact .kTuple q c
  | kDict q c => exact .kDict q c
  | fTuple q => exact .fTuple (e _ _ q fun ps z => nomatch z)
  | fDict q => exact .fDict (e _ _ q fun ps z => nomatch z)
theorem ext_none (e : ExtN G G') {b : Addr} (n : G' b = none) (t : ∀ ps, G b ≠ some (.tbl ps)) : G b = none := by
  cases c : G b with
  | none => rfl
  | some o =>
    have q := e b o c (fun ps z => t ps (by rw [c, z]))
    rw [n] at q
    cases q
theorem ext_new' {p : Addr} {o : HO} (e : ExtN G G') (n : G' p = none) : ExtN G (upd G' p o) := fun b u q t => by
  rw [upd_ne (ne_of_none (e b u q t) n)]
  exact e b u q t
theorem ext_new {p : Addr} {o : HO} (e : ExtN G G') (n : G p = none) : ExtN G (upd G' p o) := fun b u q t => by
  rw [upd_ne (ne_of_none q n)]
  exact e b u q t
end
end Fs

namespace Fs
open PySem PySem.Spec PyProof.Rows L2 LamX NdefX
open HotX (HotAt)
/-! ### comprehensions while an error is handled -/
section
variable {prog : Program} {w : World} {A : Around} {E : Value → Shared → Prop} {st : Shared}
theorem list_end_hot {it l e : Addr} {i : Nat} {items : Array Value} {Z : Option Value → Shared → Prop} (hot : HotAt A e st.heap) (ne : e ≠ it) (at_ : st.heap.IsListIter it l i) (hl : st.heap.IsList l items) (out : items[i]? = none)
    (fin : ∀ h1, Heap.ExtBut it st.heap h1 → Z none { st with heap := h1 }) : wpAny (model prog w) A (pyNext (.ref it)) Z E st := by
  obtain ⟨o, ho, hc, hd⟩ := id at_
  obtain ⟨ol, hol, _, nl, hdl⟩ := hl
  obtain ⟨hh, oe, vs, he, de, ce⟩ := hot
  unfold pyNext
  refine wpAny_bind (wpAny_attempt (wpAny_callSpecial?_slot (name := Str.ofString "__next__") at_.typeIs slot_listiter_next
    (wpAny_call_entry slot_listiter_next at_.typeIs entry_listiter_next ?_ (args_listiter_next _))))
  show wpAny _ _ (field (.ref it) 0 >>= _) _ _ st
  refine wpAny_bind (wpAny_field ho hd (x := .ref l) rfl ?_)
  show wpAny _ _ (if (Value.ref l == Value.none) = true then _ else _) _ _ st
  rw [if_neg (show ¬ ((Value.ref l == Value.none) = true) from Bool.false_ne_true)]
  show wpAny _ _ (field (.ref it) 1 >>= _) _ _ st
  refine wpAny_bind (wpAny_field ho hd (x := .int i 0) rfl ?_)
  show wpAny _ _ (seqItems? (.ref l) >>= _) _ _ st
  refine wpAny_bind (wpAny_seqItems hol hdl ?_)
  simp only [Int.toNat_natCast, out]
  refine wpAny_bind (wpAny_rule (wpAny_bind (wpAny_setField ho hd (by simp) ?_)))
  show wpAny _ _ (newExc (.type "StopIteration") [] >>= _) _ _ _
  refine wpAny_bind ?_
  simp only [newExc, newTuple]
  refine wpAny_bind (wpAny_newObj_type ?_ (by size_fits))
  refine wpAny_bind (m := firstArgMember _ _) (wpAny_of_eq (a := Value.none) (by first | rfl | (simp only [firstArgMember]; rfl)) ?_)
  refine wpAny_newObj_type ?_ (by size_fits)
  have eup : (st.heap.update it (Obj.mapFields (·.setIfInBounds 0 Value.none))).get? e = some oe := (Heap.get?_update_other _ _ (Ne.symm ne)).trans he
  refine HotX.raiseNew_hot ⟨hh, oe, vs, Heap.get?_push_of_some _ (Heap.get?_push_of_some _ eup), de, ce⟩ (Nat.ne_of_lt (Heap.lt_size (Heap.get?_push_of_some _ eup))) (Heap.get?_push_size _ rfl) rfl (by first | (simp; done) | (simp; omega) | (simp only [Array.size_append]; simp; omega)) ?_
  refine wpAny_bind (wpAny_isInstance (T := "StopIteration") (b := true) ⟨_, Heap.get?_update_self _ (Heap.get?_push_size _ rfl) rfl, rfl⟩ isSubtype_stop ?_)
  refine wpAny_pure (fin _ fun b u hb q => ?_)
  have q1 : (st.heap.update it (Obj.mapFields (·.setIfInBounds 0 Value.none))).get? b = some u := (Heap.get?_update_other _ _ (Ne.symm hb)).trans q
  rw [Heap.get?_update_other _ _ (Nat.ne_of_gt (Heap.lt_size (Heap.get?_push_of_some _ q1)))]
  exact Heap.get?_push_of_some _ (Heap.get?_push_of_some _ q1)
end
/-- an iterator that is walked while the error at e is handled -/
structure TurnQ (P : Program) (w : World) (K : PySem.W.Frag) (tg : Expr) (J : It) (fp : List Addr) (it : Addr) (tn : Nat → Heap → Prop) : Prop where
  mem : it ∈ fp
  obj : ∀ i h, tn i h → ∀ b ∈ fp, ∃ o, h.get? b = some o ∧ ∀ v, o.data ≠ .cell v
  keep : ∀ i h h', tn i h → (∀ b ∈ fp, ∀ o, h.get? b = some o → h'.get? b = some o) → tn i h'
  item : ∀ (X : Cx), X.prog = P → X.w = w → X.K = K → ∀ (i : Nat) (pn : List (Addr × Obj)) (st : Shared) (sg : L2.St) (G : Hp) (E : Value → Shared → Prop), Inv X pn sg G st → (∀ b ∈ fp, FpOk X pn G b) → tn i st.heap → J.go i G →
    wpAny (model P w) X.A (pyNext (.ref it)) (fun r s1 => ∃ u, r = some u ∧
      wpAny (model P w) X.A (letOwnedTupleGo tg (.ref it) u) (fun _ s2 => ∃ x G', Inv X pn sg G' s2 ∧ RelV x u ∧ J.yld i G x G' ∧ tn (i + 1) s2.heap ∧ ∀ b ∈ fp, G' b = none) E s1) E st
  done : ∀ (X : Cx), X.prog = P → X.w = w → X.K = K → ∀ (i : Nat) (pn : List (Addr × Obj)) (st : Shared) (sg : L2.St) (G : Hp) (E : Value → Shared → Prop) (e : Addr), HotAt X.A e st.heap → e ∉ fp → Inv X pn sg G st → (∀ b ∈ fp, FpOk X pn G b) → tn i st.heap → J.stop i G →
    wpAny (model P w) X.A (pyNext (.ref it)) (fun r s1 => r = none ∧ Inv X pn sg G s1) E st
  self : ∀ (A : Around) (i : Nat) (st : Shared) (Q : Value → Shared → Prop) (E : Value → Shared → Prop), tn i st.heap → Q (.ref it) st → wpAny (model P w) A (pyIter (.ref it)) Q E st
theorem turnQ_list {P : Program} {w : World} {K : PySem.W.Frag} {tg : Expr} (a it : Addr) : TurnQ P w K tg (Itl K a) [it] it (fun i h => h.IsListIter it a i) where
  mem := List.mem_cons_self
  obj := fun i h tn b hb => by
    obtain rfl : b = it := List.mem_singleton.mp hb
    obtain ⟨o, e, c, d⟩ := tn
    exact ⟨o, e, fun v z => by rw [d] at z; cases z⟩
  keep := fun i h h' tn k => tn.at fun o e => k it List.mem_cons_self o e
  item := by
    intro X hP hw hK i pn st sg G E J hf tn hg
    subst hP hw hK
    obtain ⟨xs, x, hq, hx⟩ := hg
    obtain ⟨its, rv, pl, _⟩ := J.list hq
    obtain ⟨u, hu, ru⟩ := rv.get hx
    obtain ⟨f0, f1, f2, f3, f4, f5⟩ := hf it List.mem_cons_self
    refine wpAny_pyNext_list_item tn pl.isList (x := u) (by simpa using hu) fun h1 tn1 sb => ?_
    have J1 : Inv X pn sg G { st with heap := h1 } := J.turned (t' := st.toks) (fun b o hb q => (sb.2 b hb).trans q) f0 f1 f3 f4 f5
    obtain ⟨o, e, c, d⟩ := id tn1
    exact ⟨u, rfl, go_of (s := { st with heap := h1 }) e c d (by decide) ⟨x, G, J1, ru, ⟨rfl, fun ys hy => by rw [J.list_inj hy hq]; exact hx⟩, tn1, fun b hb => (hf b hb).1⟩⟩
  done := by
    intro X hP hw hK i pn st sg G E e hot ne J hf tn hg
    subst hP hw hK
    obtain ⟨xs, hq, hx⟩ := hg
    obtain ⟨its, rv, pl, _⟩ := J.list hq
    obtain ⟨f0, f1, f2, f3, f4, f5⟩ := hf it List.mem_cons_self
    have len := rv.length
    exact list_end_hot hot (fun z => ne (z ▸ List.mem_cons_self)) tn pl.isList (by simp; omega) fun h1 eb => ⟨rfl, J.turned (t' := st.toks) (fun b o hb q => eb b o hb q) f0 f1 f3 f4 f5⟩
  self := fun _ _ _ _ _ tn h => wpAny_pyIter_listiter tn h
theorem turnQ_range {P : Program} {w : World} {K : PySem.W.Frag} {tg : Expr} (it : Addr) (lo : Int) (n : Nat) : TurnQ P w K tg (Itr lo n) [it] it (fun i h => IsRangeIter h it (lo + (i : Nat) * 1) ((n : Int) - (i : Nat)) 1) where
  mem := List.mem_cons_self
  obj := fun i h tn b hb => by
    obtain rfl : b = it := List.mem_singleton.mp hb
    exact ⟨_, tn, fun v z => by
      have z' : Data.fields _ = Data.cell v := z
      cases z'⟩
  keep := fun i h h' tn k => k it List.mem_cons_self _ tn
  item := by
    intro X hP hw hK i pn st sg G E J hf tn hg
    subst hP hw hK
    obtain ⟨f0, f1, f2, f3, f4, f5⟩ := hf it List.mem_cons_self
    have lt : i < n := hg
    refine wpAny_pyNext_range_item tn (by omega) fun h1 tn1 sb => ?_
    have tn2 : IsRangeIter h1 it (lo + ((i + 1 : Nat) : Int) * 1) ((n : Int) - ((i + 1 : Nat) : Int)) 1 := by
      rw [show lo + ((i + 1 : Nat) : Int) * 1 = lo + ((i : Nat) : Int) * 1 + 1 by omega, show (n : Int) - ((i + 1 : Nat) : Int) = (n : Int) - ((i : Nat) : Int) - 1 by omega]
      exact tn1
    have J1 : Inv X pn sg G { st with heap := h1, toks := st.toks + 1 } := J.turned (fun b o hb q => (sb.2 b hb).trans q) f0 f1 f3 f4 f5
    refine ⟨_, rfl, go_of (s := { st with heap := h1, toks := st.toks + 1 }) (n := "range_iterator") tn2 rfl rfl (by decide) ⟨.int (lo + i), G, J1, ⟨st.toks, ?_⟩, ⟨rfl, rfl⟩, tn2, fun b hb => (hf b hb).1⟩⟩
    rw [Int.mul_one]
  done := by
    intro X hP hw hK i pn st sg G E e hot ne J hf tn hg
    subst hP hw hK
    obtain ⟨f0, f1, f2, f3, f4, f5⟩ := hf it List.mem_cons_self
    exact HotX.pyNext_range_end_hot hot tn (by have : n ≤ i := hg; omega) fun h1 eb => ⟨rfl, J.turned (t' := st.toks) (fun b o _ q => eb b o q) f0 f1 f3 f4 f5⟩
  self := fun _ _ _ _ _ tn h => wpAny_pyIter_rangeiter tn h
def PIEQ (X : Cx) (pn : List (Addr × Obj)) (sg : L2.St) (tg : Expr) (R : It → Hp → Prop) (itv : Value) (s2 : Shared) : Prop :=
  ∃ (it : Addr) (fp : List Addr) (tn : Nat → Heap → Prop) (J : It) (G' : Hp), itv = .ref it ∧ Inv X pn sg G' s2 ∧ TurnQ X.prog X.w X.K tg J fp it tn ∧ tn 0 s2.heap ∧ (∀ b ∈ fp, FpOk X pn G' b) ∧ R J G'
structure PIQ (X : Cx) (tg iter : Expr) (wi : L2.TI) : Prop where
  run : ∀ (pn : List (Addr × Obj)) (st : Shared) (sg : L2.St) (G : Hp) (R : It → Hp → Prop), Inv X pn sg G st → wi sg G R →
    wpAny (model X.prog X.w) X.A (eval iter X.env) (fun v s1 => wpAny (model X.prog X.w) X.A (pyIter v) (PIEQ X pn sg tg R) X.xe s1) X.xe st
section
variable {X : Cx} {tg : Expr}
theorem piQ_list {l : Expr} {tl : TE} (hl : PE X l tl) : PIQ X tg l (iList X.K tl) := by
  refine ⟨fun pn st sg G R J h => ?_⟩
  refine thn (hl.run pn st sg G _ J h) fun v s1 ⟨x, G1, J1, r1, q1⟩ => ?_
  obtain ⟨a, rfl, ⟨xs, hq⟩, q⟩ := q1
  cases r1
  obtain ⟨its, rv, pl, _⟩ := J1.list hq
  refine wpAny_pyIter_list pl.isList ?_
  refine ⟨s1.heap.objs.size, [s1.heap.objs.size], _, _, G1, rfl, J1.kept (t' := s1.toks) fun b o e => Heap.get?_push_of_some _ e, turnQ_list a _, ⟨_, Heap.get?_push_size _ rfl, rfl, rfl⟩, fun b hb => ?_, q⟩
  obtain rfl : b = s1.heap.objs.size := List.mem_singleton.mp hb
  exact J1.fpOk (Nat.le_refl _) (J1.hok.fresh (Nat.le_refl _))
theorem piQ_range1 {a : Expr} {ta : TA} {p pos : Pos} (hg : Gl X "range") (hm : X.mg "range" = none) (ha : PA X [a] ta) (hs : starEach [a] X.env = [(false, eval a X.env)] := by rfl) : PIQ X tg (.Call (.Name "range" p) [a] [] pos) (iRng1 ta) := by
  refine ⟨fun pn st sg G R J h => ?_⟩
  refine Call_ (ld_blt J hg hm boot_range (PyProof.Rows.callWith_type1 (thn (ha.run pos pn st sg G _ J h) fun us s1 ⟨vs, G1, J1, r1, q1⟩ => ?_) hs rfl))
  obtain ⟨j, rfl, q1, q2, q⟩ := q1
  cases r1 with
  | cons r rr =>
    cases rr
    obtain ⟨t, rfl⟩ := r
    refine call_range_1 ?_
    refine wpAny_pyIter_range (IsRange.new ..) (small_one (by omega) (by omega) q1 q2) ?_
    have J2 : Inv X pn sg G1 { s1 with heap := s1.heap.push { cls := .type "range", data := .fields #[.int 0 s1.toks, .int j t, .int 1 (s1.toks + 1)] }, toks := s1.toks + 2 } := J1.kept fun b o e => Heap.get?_push_of_some _ e
    refine ⟨_, [_], _, _, G1, rfl, J2.kept (t' := s1.toks + 2) fun b o e => Heap.get?_push_of_some _ e, turnQ_range _ 0 j.toNat, ?_, fun b hb => ?_, by simpa using q⟩
    · have e1 : (0 : Int) + ((0 : Nat) : Int) * 1 = 0 := by simp
      have e2 : ((j.toNat : Nat) : Int) - ((0 : Nat) : Int) = Builtin.Range.rangeSize 0 j 1 := by rw [rangeSize_one]; split <;> omega
      rw [e1, e2]
      exact Heap.get?_push_size _ rfl
    · obtain rfl := List.mem_singleton.mp hb
      exact J2.fpOk (Nat.le_refl _) (J2.hok.fresh (Nat.le_refl _))
end
section
variable {X : Cx}
theorem pe_lcQ {elt tg iter : Expr} {ifs : List Expr} {scope : Scope} {own : List (Str × Nat)} {pos : Pos} {wi : L2.TI} {g : TG} {tt : TT} {te : TE} (hot : L2H.HotC X) (hN : X.N.Nodup) (hi : PIQ X tg iter wi) (ok : BlkOk X.N X.env.scope scope own)
    (hg : ∀ (s : Shared) (H : Hp) (C : Addr) (cl : List (Str × Addr)) (fp : List Addr), PG (X.blk s H scope (compEnvC scope cl C X.env) fp) tg g) (ht : ∀ (s : Shared) (H : Hp) (C : Addr) (cl : List (Str × Addr)) (fp : List Addr), PTs (X.blk s H scope (compEnvC scope cl C X.env) fp) ifs tt)
    (he : ∀ (s : Shared) (H : Hp) (C : Addr) (cl : List (Str × Addr)) (fp : List Addr), PE (X.blk s H scope (compEnvC scope cl C X.env) fp) elt te) (hs : ∀ x, foldedSetIterable iter X.env x = pure x := by intro _; rfl) :
    PE X (.ListComp elt [⟨tg, iter, ifs, 0⟩] scope pos) (tLc wi g tt te (own.map (·.2))) := by
  refine ⟨fun pn st sg G Z I want => ?_⟩
  rw [eval_ListComp]
  obtain ⟨pin, ⟨hnd, vsx, hdx, ctx⟩, hpin⟩ := hot
  have caps : ∀ y ∈ scope.names, y.2 = .free → ∃ c, X.env.cells.lookup y.1 = some c := fun y hy e => by
    rcases ok.free y hy e with k | k
    · exact I.ok.has _ (.inl k)
    · exact I.ok.has _ (.inr k)
  refine wpAny_comprehension_free (use := none) rfl hs (closure_ok caps) ok.kind (fun y hy e => by rw [ok.uniq y hy, e])
    (thn (hi.run pn st sg G _ I want) fun xv s1 hx => thn hx fun itv s2 h2 => ?_)
  obtain ⟨it, fp, tn, J, G2, e, I2, T, st2, f2, q⟩ := h2
  subst e
  refine wpAny_newObj_type (newEnv_comp ?_) (by show 0 ≤ sizeLine; decide)
  generalize hD : s2.heap.objs.size = D
  have hDn : G2 D = none := I2.hok.fresh (Nat.le_of_eq hD)
  obtain ⟨W, ⟨m0, w0⟩, turn⟩ := q D hDn
  generalize hs3 : ({ s2 with heap := s2.heap.push { cls := .type "list", data := .seq ([] : List Value).toArray } } : Shared) = s3
  have I3 : Inv X pn sg (upd G2 D (.lst [])) s3 := by
    rw [← hs3]
    refine I2.laid (t' := s2.toks) (fun b o e => Heap.get?_push_of_some _ e) (Nat.le_of_eq hD) ⟨Nat.zero_le _, [], 0, .nil, ?_⟩
    rw [← hD]
    exact Heap.get?_push_size _ rfl
  have h3 : s3.heap = s2.heap.push { cls := .type "list", data := .seq ([] : List Value).toArray } := by rw [← hs3]
  have small : ∀ b ∈ fp, b < s2.heap.objs.size := fun b hb => by
    obtain ⟨o, e, _⟩ := T.obj _ _ st2 b hb
    exact Heap.lt_size e
  have f3 : ∀ b ∈ fp, FpOk X pn (upd G2 D (.lst [])) b ∧ b < s3.heap.objs.size := fun b hb => by
    have lt := small b hb
    refine ⟨⟨?_, (f2 b hb).2⟩, by rw [h3, Heap.size_push]; exact Nat.lt_succ_of_lt lt⟩
    rw [upd_ne (by rw [← hD]; exact Nat.ne_of_lt lt)]
    exact (f2 b hb).1
  have st3 : tn 0 s3.heap := T.keep _ _ _ st2 fun b _ o e => by rw [h3]; exact Heap.get?_push_of_some _ e
  have I4 := block_start I3 ok hN f3
  obtain ⟨px, pfree, pl, pf, _⟩ := I3.pin pin (List.mem_append_left _ hpin)
  have offp : pin.1 ∉ fp := fun hm => (f2 _ hm).2.2.2.2.2 pin (List.mem_append_left _ hpin) rfl
  have offs : pin.1 ∉ frs X.stack := fun hm => (List.mem_cons.mp (I3.stkSub _ hm)).elim pl pf
  have pg := hg s3 (upd G2 D (.lst [])) s3.heap.objs.size (cellsFrom (s3.heap.objs.size + 1) scope.names (cloFrom X.env.cells scope.names [])) fp
  have pt := ht s3 (upd G2 D (.lst [])) s3.heap.objs.size (cellsFrom (s3.heap.objs.size + 1) scope.names (cloFrom X.env.cells scope.names [])) fp
  have pe := he s3 (upd G2 D (.lst [])) s3.heap.objs.size (cellsFrom (s3.heap.objs.size + 1) scope.names (cloFrom X.env.cells scope.names [])) fp
  show codeAny _ _ (.compStart (.ListComp elt [⟨tg, iter, ifs, 0⟩] scope pos) 0 (.ref it) (.ref D) (compEnvC scope (cellsFrom (s3.heap.objs.size + 1) scope.names (cloFrom X.env.cells scope.names [])) s3.heap.objs.size X.env)) (compPost (model X.prog X.w) X.A X.xe none _ (.ref D) s3.heap.objs.size) { s3 with heap := pushCells (s3.heap.push { cls := .type "dict", data := .dict #[] }) scope.names }
  have nfp : ∀ b ∈ fp, (upd G2 D (.lst [])) b = none := fun b hb => (f3 b hb).1.1
  generalize hce : compEnvC scope (cellsFrom (s3.heap.objs.size + 1) scope.names (cloFrom X.env.cells scope.names [])) s3.heap.objs.size X.env = ce at I4 pg pt pe ⊢
  have cL : ce.locals = s3.heap.objs.size := by subst hce; rfl
  generalize hG3 : upd G2 D (.lst []) = G3 at I3 I4 pg pt pe w0 nfp f3 pfree
  generalize hs4 : ({ s3 with heap := pushCells (s3.heap.push { cls := .type "dict", data := .dict #[] }) scope.names } : Shared) = s4 at I4 ⊢
  have st4 : tn 0 s4.heap := T.keep _ _ _ st3 fun b _ o e => by rw [← hs4]; exact pushCells_keeps _ _ _ _ (Heap.get?_push_of_some _ e)
  have stat : ∀ {sg' : L2.St} {G' : Hp} {s' : Shared}, Inv (X.blk s3 G3 scope ce fp) [] sg' G' s' → (∀ b ∈ fp, G' b = none) → ∀ b ∈ fp, FpOk (X.blk s3 G3 scope ce fp) [] G' b := fun {sg' G' s'} I' hn b hb =>
    ⟨hn b hb, (I'.ok.exf b hb).1, I'.ok.exfs b hb, .inl hb, fun x c e => (I'.ok.exf b hb).2 x c e, fun p hp => absurd (show p ∈ ([] : List (Addr × Obj)) ++ [] from hp) (by simp)⟩
  have loop : codeAny (model X.prog X.w) X.A (.compLoop (.ListComp elt [⟨tg, iter, ifs, 0⟩] scope pos) 0 (.ref it) (.ref D) ce) (compPost (model X.prog X.w) X.A X.xe none (EP X pn sg Z) (.ref D) s3.heap.objs.size) s4 := by
    refine compLoop_any (fun n s' => ∃ i G', Inv (X.blk s3 G3 scope ce fp) [] (wipe sg (own.map (·.2))) G' s' ∧ tn i s'.heap ∧ (∀ b ∈ fp, G' b = none) ∧ W i n G') ?_ m0 ⟨0, G3, I4, st4, nfp, w0⟩
    rintro n s5 ⟨i, G5, I5, st5, n5, w5⟩
    rcases turn i n G5 w5 with ⟨stop, qq⟩ | ⟨go, Nx, hNx, step⟩
    · have hat : HotAt (X.blk s3 G3 scope ce fp).A pin.1 s5.heap := ⟨hnd, pin.2, vsx, I5.base.keep pin.1 pin.2 px pfree offs offp, hdx, ctx⟩
      refine thnF (T.done (X.blk s3 G3 scope ce fp) rfl rfl rfl i [] s5 _ G5 (fun _ _ => False) pin.1 hat offp I5 (stat I5 n5) st5 stop) fun r s6 ⟨hr, I6⟩ => ?_
      subst hr
      have I7 : Inv X pn sg G5 s6 := I3.call' (ch := fp) I6.os I6.base I6.hok I6.bare fun b hb => ⟨(f3 b hb).1.2.2.2.1, (f3 b hb).1.2.1, (f3 b hb).1.2.2.2.2.1, (f3 b hb).1.2.2.2.2.2⟩
      have nC : G5 s3.heap.objs.size = none := by
        have z : G5 ce.locals = none := I6.free
        rw [cL] at z
        exact z
      obtain ⟨m, hn, _⟩ := I6.loc
      have hn : s6.heap.Ns ce.locals m := hn
      rw [cL] at hn
      obtain ⟨f0, f1, f2', f3', f4, f5⟩ := I3.fpOk (Nat.le_refl _) nC
      exact ⟨m, hn, fun h'' sb => ⟨.ref D, G5, I7.turned (t' := s6.toks) (fun b o hb e => (sb.2 b hb).trans e) f0 f1 f3' f4 f5, rfl, qq⟩⟩
    · have ti := T.item (X.blk s3 G3 scope ce fp) rfl rfl rfl i [] s5 _ G5 (fun _ _ => False) I5 (stat I5 n5) st5 go
      refine thnF ti fun r s6 ⟨u, hr, h6⟩ => ?_
      subst hr
      refine thnF h6 fun _ s7 ⟨x, G7, I7, r7, y7, st7, n7⟩ => ?_
      have I7' := I7.pinned (stat I7 n7) (T.obj _ _ st7)
      refine thnF (pg.run _ s7 _ G7 x u _ I7' r7 (step x G7 y7)) fun _ s8 ⟨sg8, G8, I8, hw8, q8⟩ => ?_
      refine thnF (pt.run _ s8 sg8 G8 _ I8 q8) fun b s9 ⟨G9, I9, q9⟩ => ?_
      have again : ∀ {s' : Shared} {G' : Hp}, Inv (X.blk s3 G3 scope ce fp) ([] ++ pinsAt fp s7.heap) sg8 G' s' → Nx G' → ∃ m, m < n ∧ ∃ i G', Inv (X.blk s3 G3 scope ce fp) [] (wipe sg (own.map (·.2))) G' s' ∧ tn i s'.heap ∧ (∀ b ∈ fp, G' b = none) ∧ W i m G' := fun {s' G'} I' nx => by
        obtain ⟨m', hm, w'⟩ := hNx G' nx
        have held : ∀ b ∈ fp, ∀ o, s7.heap.get? b = some o → s'.heap.get? b = some o ∧ G' b = none := fun b hb o e =>
          let z := I'.pin (b, o) (List.mem_append_right _ (List.mem_append_right _ (mem_pinsAt hb e)))
          ⟨z.1, z.2.1⟩
        have len : (wipe sg (own.map (·.2))).length = sg8.length := by rw [← hw8, wipe_length]
        refine ⟨m', hm, i + 1, G', (I'.unpinned (pins := [])).weak len (fun j v e => ?_), T.keep _ _ _ st7 fun b hb o e => (held b hb o e).1, fun b hb => ?_, w'⟩
        · rw [← hw8] at e
          exact (wipe_some e).1
        · obtain ⟨o, e, _⟩ := T.obj _ _ st7 b hb
          exact (held b hb o e).2
      cases b with
      | false =>
        simp only [Bool.false_eq_true, if_false] at q9 ⊢
        exact again I9 q9
      | true =>
        simp only [if_true] at q9 ⊢
        refine thnF (pe.run _ s9 sg8 G9 _ I9 q9) fun z s10 ⟨yv, G10, I10, r10, acc, hD10, hz10, nx⟩ => ?_
        exact app_ok (X := X.blk s3 G3 scope ce fp) I10 hD10 hz10 r10 fun s11 I11 => again I11 nx
  exact codeAny_compStart_list loop (T.self X.A 0 _ _ _ st4 loop)
end
/-- the suite of a caught error is hot -/
theorem hot_suite {X : Cx} {a : Addr} {oe : Obj} {cls : Value} {d : Option Addr} {pn : List (Addr × Obj)} (hz : L2N.Zn cls d oe) (hf : ∃ vs, oe.data = .fields vs) : L2H.HotC (X.suite a ((a, oe) :: pn)) := by
  obtain ⟨vs, hd⟩ := hf
  exact ⟨(a, oe), ⟨rfl, vs, hd, hz.2.2 vs hd⟩, List.mem_cons_self⟩
end Fs

namespace Fs
open PySem PySem.Spec PyProof.Rows L2 LamX NdefX
/-! ### C(e, ..), C an own error with its own __init__; its context is None -/
theorem pmk_oexN {X : Cx} {ex : CXT} {x : Str} {C fI : Addr} {k : Nat} {fd : FuncData} {ps : List Str} {sp : Sp} {ds : List Value} {dvs : List V} {e : Expr} {es : List Expr} {ta : TA} {p pos : Pos} (T : OexC X.K C) (iC : PySem.W.findIn X.K (.ref C) "__init__" = some (some (.ref fI)))
    (tI : PySem.W.typeIn X.K (.ref fI) = some (.type "function")) (Fi : FnOk X.prog X.w X.K X.mg X.base ex k fI fd ps sp) (hr : Room (k + 1) X.A) (hb : Binds X.K fd ps ds) (hd : Vals dvs ds) (hx : Passes ex X (fun _ _ _ => False)) (hg : Gl X x) (hm : X.mg x = some (.ref C)) (ha : PA X (e :: es) ta)
    (hdb : (x == ("__debug__" : Str)) = false := by decide) (he : starEach (e :: es) X.env = (false, eval e X.env) :: starEach es X.env := by rfl) (hpl : (backTo pos (starEach es X.env)).any (·.1) = false := by rfl) :
    L2N.PMk X (.Call (.Name x p) (e :: es) [] pos) (tMkO C sp dvs ta) := by
  intro pn st sg G Q J want
  obtain ⟨nm, q, N, bs, bm, sn, sub, ab, col, dd, k0, k1, k2, k3, k5, hC, hbm⟩ := T.cls
  refine wpAny_Call_Name_kw (ld_glob J hg hm ?_ hdb)
  refine PySem.W.callWith_K (h₀ := X.base) J.ok.mod.kin T.kC (thn (ha.run pos pn st sg G _ J want) fun us s1 ⟨vs, G1, J1, r1, few, q1⟩ => ⟨J1.kIn, ?_⟩) he hpl
  show wpAny _ _ (call (.ref C) us) _ _ _
  obtain ⟨hp, g, dr, tk, os⟩ := s1
  have le : hp.objs.size ≤ hp.objs.size + 1 := Nat.le_succ _
  have hq := q1 (hp.objs.size + 1) (J1.hok.fresh le)
  have kk : ∀ b o, hp.get? b = some o → ((hp.push (PySem.W.kdv_tup us)).push (PySem.HandSPX.excO C hp.objs.size)).get? b = some o := fun b o e => Heap.get?_push_of_some _ (Heap.get?_push_of_some _ e)
  have at_ : ((hp.push (PySem.W.kdv_tup us)).push (PySem.HandSPX.excO C hp.objs.size)).get? (hp.objs.size + 1) = some (PySem.HandSPX.excO C hp.objs.size) := by heap_get
  have J2 : Inv X pn sg (upd G1 (hp.objs.size + 1) (exo (hp.objs.size + 1) C none)) ⟨(hp.push (PySem.W.kdv_tup us)).push (PySem.HandSPX.excO C hp.objs.size), g, dr, tk, os⟩ :=
    J1.laid (t' := tk) (a := hp.objs.size + 1) (o := exo (hp.objs.size + 1) C none) (h' := (hp.push (PySem.W.kdv_tup us)).push (PySem.HandSPX.excO C hp.objs.size)) kk le (exo_ok at_)
  have r2 : Vals (V.ref (hp.objs.size + 1) :: (vs ++ dvs)) (Value.ref (hp.objs.size + 1) :: (us ++ ds)) := .cons rfl (r1.append hd)
  have len : (Value.ref (hp.objs.size + 1) :: us ++ ds).length = ps.length := by
    have e := r2.length
    rw [Fi.len _ _ _ _ hq] at e
    exact e.symm
  have fits : us.length ≤ sizeLine := by
    rw [← Paired.length r1, sizeLine_eq]
    omega
  refine wpAny_call (PySem.HandSPX.call_own F.excBase_ValueError (fun Y => PySem.HandSPX.refsVE_contains Y bm hbm) (J1.kIn _ _ hC) (PySem.W.looks_findIn J1.kIn iC) (fun self => PySem.W.bind_fn J1.kIn self tI) fits
    (codeAny_mono (Fi.run _ X.stack _ _ ⟨Value.ref (hp.objs.size + 1) :: us, []⟩ (Value.ref (hp.objs.size + 1) :: (us ++ ds)) _ _ (fun _ _ _ => False) (hr.make C us []) (J2.env0.make C us []) (hb _ (Value.ref (hp.objs.size + 1) :: us) J2.kIn len) r2 hq) fun r s2 fin => ?_))
  cases r with
  | error er => exact hx pn sg _ _ er s2 J2 fin
  | ok fl =>
    cases fl with
    | ret u =>
      obtain ⟨v, G2, os2, bare2, un2, ok2, rv, rfl, d, fs, ea, ed, n1, q2⟩ := fin
      obtain ⟨h2, g2, d2, t2, os3⟩ := s2
      obtain ⟨t0, H, J3, kG, ge, hoe, na⟩ := mk_end0 (d2 := d2) (t2 := t2) J1 le kk un2 ok2 os2 bare2 ea ed n1
      exact ⟨rv, _, _, _, ⟨H, g2, d2, t2, os3⟩, _, .ref C, some d, rfl, J3, kG, ge, hoe, ⟨rfl, rfl, fun ws hw => by cases hw; rfl⟩, rfl, rfl, na, rfl, bare2, raises_own T.exC T.tyC, q2⟩
    | next => exact fin.elim
    | brk => exact fin.elim
    | cont => exact fin.elim
/-- what __init__ of an error with one field keeps -/
def spErr (C : Addr) (n : Str) : Sp := fun vs G Z _ => ∃ a v, vs = [.ref a, v] ∧ G a = some (exo a C none) ∧ ∀ d, G d = none → d ≠ a → Z .non (upd (upd G d (exd d [(n, v)])) a (exo a C (some d)))
/-- E(e): the error in the air has this one field -/
theorem err_made {C : Addr} {n : Str} {G : Hp} {v : V} {Q : XK} (k : ∀ d G', Same G G' → G' d = some (.xd [(n, v)]) → Q (.ref C) (some d) G') :
    [v].length ≤ 1000 ∧ ∀ a, G a = none → spErr C n (.ref a :: ([v] ++ [])) (upd G a (exo a C none)) (fun u H2 => u = .non ∧ ∃ (d : Addr) (fs : List (Str × V)), H2 a = some (exo a C (some d)) ∧ H2 d = some (exd d fs) ∧ G d = none ∧ Q (.ref C) (some d) (upd (del H2 a) d (.xd fs))) (fun _ _ _ => False) := by
  refine ⟨by show 1 ≤ 1000; decide, fun a na => ⟨a, v, rfl, upd_same, fun d nd ne => ⟨rfl, d, [(n, v)], upd_same, ?_, ?_, k d _ ?_ upd_same⟩⟩⟩
  · rw [upd_ne ne, upd_same]
  · rw [upd_ne ne] at nd
    exact nd
  · rw [upd_ne ne] at nd
    intro b o q
    have b1 : b ≠ a := ne_of_none q na
    have b2 : b ≠ d := ne_of_none q nd
    rw [upd_ne b2, del_ne b1, upd_ne b1, upd_ne b2, upd_ne b1]
    exact q
theorem ok_err {P : Program} {w : World} {K : PySem.W.Frag} {mg : Str → Option Value} {base : Heap} {ex : CXT} {qual : Str} {sd : Stmt} {f C : Addr} {fd : FuncData} {n : Str} (F : Fun K "__init__" qual sd f fd) (S : FnScope ["self", n] ["self", n] (defScope sd)) (T : OexC K C) (hno : PySem.W.findIn K (.ref C) n = some none)
    {p1 p2 p3 p4 : Pos} (hb : defBody sd = [.Assign [.Attribute (.Name "self" p1) n p2] (.Name n p3) p4]) (hv0 : Vis (defScope sd) "self") (hv1 : Vis (defScope sd) n) (hd : (n == ("__debug__" : Str)) = false) (hcd : (n == ("__classdict__" : Str)) = false) :
    FnOk P w K mg base CX0 1 f fd ["self", n] (spErr C n) := by
  refine F.ok S (fun vs G Z E h => ?_) (fun cdv A out st G vs Z E hr h => ?_)
  · obtain ⟨a, v, rfl, _⟩ := h
    rfl
  · obtain ⟨a, v, rfl, ha, fin⟩ := h
    rw [hb]
    refine ⟨_, pss_one (ps_ost (pe_var (i := 0) rfl hv0) (pe_var (i := 1) rfl hv1 hd hcd)), ?_⟩
    exact ⟨v, rfl, .ref a, rfl, a, C, rfl, T, hno, .inl ⟨ha, fun d nd ne => fin d nd ne⟩⟩
/-! ### join, its reading by a name -/
def rJoin (K : PySem.W.Frag) : V → List V → Hp → VK → Prop := fun x xs G Z => ∃ a p, ∃ ys : List Str, x = .str a ∧ xs = [.ref p] ∧ (SqL K G p (ys.map V.str) ∨ SqT K G p (ys.map V.str)) ∧ (ys.map (·.length)).sum + ys.length * a.length ≤ 16777216 ∧ Z (.str (Txt.join a ys)) G
theorem pe_join2 {X : Cx} {o e : Expr} {to te : TE} {apos pos : Pos} (ho : PE X o to) (he : PE X e te) (hs : starEach [e] X.env = [(false, eval e X.env)] := by rfl) (hbase : attributeBase o "join" X.env (eval o X.env) = eval o X.env := by rfl) (hline : (apos.endLine == pos.line) = true := by rfl) :
    PE X (.Call (.Attribute o "join" apos) [e] [] pos) (tM1 (rJoin X.K) to te) := pe_join ho he hs hbase hline
/-- .. the facts of the text told apart, for a suite -/
theorem pe_join3 {X : Cx} (K : PySem.W.Frag) {o e : Expr} {to te : TE} {apos pos : Pos} (ho : PE X o to) (he : PE X e te) (hK : X.K = K := by rfl) (hs : starEach [e] X.env = [(false, eval e X.env)] := by rfl) (hbase : attributeBase o "join" X.env (eval o X.env) = eval o X.env := by rfl) (hline : (apos.endLine == pos.line) = true := by rfl) :
    PE X (.Call (.Attribute o "join" apos) [e] [] pos) (tM1 (rJoin K) to te) := hK ▸ pe_join ho he hs hbase hline
theorem op_in3 {X : Cx} (K : PySem.W.Frag) (hK : X.K = K := by rfl) : OpR X (compareOp .In) (rIn K false) := hK ▸ op_in_seq
theorem op_neD3 {X : Cx} (K : PySem.W.Frag) (hu : X.A.units + 64 < cLine) (hK : X.K = K := by rfl) : OpR X (compareOp .NotEq) (rNeD K) := hK ▸ op_neD hu
theorem piQ_list3 {X : Cx} (K : PySem.W.Frag) {tg l : Expr} {tl : TE} (hl : PE X l tl) (hK : X.K = K := by rfl) : PIQ X tg l (iList K tl) := hK ▸ piQ_list hl
end Fs

namespace Fs
open PySem PySem.Spec PyProof.Rows L2 LamX NdefX
/-! ### all but the tables stay, and these tell what they told -/
structure ExtT (G G' : Hp) : Prop where
  n : ExtN G G'
  t : ∀ T, Tabs T G → Tabs T G'
section
variable {G G' G'' : Hp} {T : List (Addr × Str)}
theorem ExtT.refl (G : Hp) : ExtT G G := ⟨ExtN.refl G, fun _ h => h⟩
theorem ExtT.trans (a : ExtT G G') (b : ExtT G' G'') : ExtT G G'' := ⟨a.n.trans b.n, fun T h => b.t T (a.t T h)⟩
theorem ExtT.of (e : Same G G') : ExtT G G' := ⟨ExtN.of e, fun T h => h.ext e⟩
theorem ExtT.new' {p : Addr} {o : HO} (e : ExtT G G') (n : G' p = none) : ExtT G (upd G' p o) := e.trans (ExtT.of fun b u q => (upd_ne (ne_of_none q n)).trans q)
theorem tabs_off {j : Addr} (h : Tabs T G) (n1 : ∀ ps, G j ≠ some (.tbl ps)) (n2 : ∀ q, G j ≠ some (CodeO j q)) (g : ∀ b o, b ≠ j → G b = some o → G' b = some o) : Tabs T G' := fun p hp => by
  obtain ⟨ps, a1, a2, a3⟩ := h p hp
  refine ⟨ps, g _ _ (fun e => n1 ps (e ▸ a1)) a1, a2, fun pos cv hc => ?_⟩
  obtain ⟨c, e1, e2⟩ := a3 pos cv hc
  exact ⟨c, e1, g _ _ (fun e => n2 p.2 (by rw [← e]; exact e2)) e2⟩
theorem tabs_lst {j : Addr} {xs : List V} (h : Tabs T G) (q : G j = some (.lst xs)) (g : ∀ b o, b ≠ j → G b = some o → G' b = some o) : Tabs T G' :=
  tabs_off h (fun ps z => by rw [q] at z; cases z) (fun n z => by
    rw [q] at z
    have z' := Option.some.inj z
    unfold CodeO at z'
    cases z') g
theorem extT_thaw {L : List (Addr × Obj)} (off : Off G L) (e : ExtT (ice G L) G') : ExtT G (thaw G' L) := by
  refine ⟨ext_thaw off e.n, fun T h => ?_⟩
  have i : Iced G' L := iced_ice.later e.n
  intro p hp
  obtain ⟨ps, a1, a2, a3⟩ := e.t T (h.ext (off_same off)) p hp
  refine ⟨ps, (thaw_out (i.offB a1)).trans a1, a2, fun pos cv hc => ?_⟩
  obtain ⟨c, e1, e2⟩ := a3 pos cv hc
  refine ⟨c, e1, ?_⟩
  cases q : L.lookup c with
  | some o =>
    have z := i c o q
    rw [e2] at z
    have z' := Option.some.inj z
    unfold CodeO at z'
    cases z'
  | none => exact (thaw_out q).trans e2
end
end Fs

namespace Fs
open PySem PySem.Spec PyProof.Rows L2 LamX NdefX
abbrev sEnded : Stmt := (top 33)
abbrev sIsEnded : Stmt := (top 34)
/-- where the classes of errors lie -/
structure ECls where
  t : Addr
  n : Addr
  w : Addr
  p : Addr
  i : Addr
  l : Addr
  s : Addr
  a : Addr
  u : Addr
  e : Addr
  k : Addr
  y : Addr
  v : Addr
  m : Addr
  z : Addr
structure EMg (mg : Str → Option Value) (c : ECls) : Prop where
  t : mg "InvalidText" = some (.ref c.t)
  n : mg "InvalidNumber" = some (.ref c.n)
  w : mg "NotWorks" = some (.ref c.w)
  p : mg "InvalidParts" = some (.ref c.p)
  i : mg "InvalidTies" = some (.ref c.i)
  l : mg "InvalidLeaders" = some (.ref c.l)
  s : mg "InvalidStrengths" = some (.ref c.s)
  a : mg "InvalidState" = some (.ref c.a)
  u : mg "InvalidPushes" = some (.ref c.u)
  e : mg "InvalidSeen" = some (.ref c.e)
  k : mg "UnknownName" = some (.ref c.k)
  y : mg "NoWay" = some (.ref c.y)
  v : mg "WrongValue" = some (.ref c.v)
  m : mg "WrongName" = some (.ref c.m)
  z : mg "NoAnswer" = some (.ref c.z)
/-- what is known of a class D of errors: the k-th one, under this base -/
structure Kind (K : PySem.W.Frag) (c : ECls) (D : Addr) (k base : Nat) : Prop where
  ex : ExcC K D
  xf : XfC K D
  any : PySem.W.exmAny K (.ref D) [.ref c.v, .ref c.m, .ref c.z] = some true
  k0 : PySem.W.kitOne K (.ref D) (.ref c.t) = some (decide (k = 0))
  k1 : PySem.W.kitOne K (.ref D) (.ref c.n) = some (decide (k = 1))
  k2 : PySem.W.kitOne K (.ref D) (.ref c.w) = some (decide (k = 2))
  k3 : PySem.W.kitOne K (.ref D) (.ref c.p) = some (decide (k = 3))
  k4 : PySem.W.kitOne K (.ref D) (.ref c.i) = some (decide (k = 4))
  k5 : PySem.W.kitOne K (.ref D) (.ref c.l) = some (decide (k = 5))
  k6 : PySem.W.kitOne K (.ref D) (.ref c.s) = some (decide (k = 6))
  k7 : PySem.W.kitOne K (.ref D) (.ref c.a) = some (decide (k = 7))
  k8 : PySem.W.kitOne K (.ref D) (.ref c.u) = some (decide (k = 8))
  k9 : PySem.W.kitOne K (.ref D) (.ref c.e) = some (decide (k = 9))
  k10 : PySem.W.kitOne K (.ref D) (.ref c.k) = some (decide (k = 10))
  k11 : PySem.W.kitOne K (.ref D) (.ref c.y) = some (decide (k = 11))
  b0 : PySem.W.kitOne K (.ref D) (.ref c.v) = some (decide (base = 0))
  b1 : PySem.W.kitOne K (.ref D) (.ref c.m) = some (decide (base = 1))
  b2 : PySem.W.kitOne K (.ref D) (.ref c.z) = some (decide (base = 2))
def wordOf (k : Nat) : Str := ((["text", "number", "works", "parts", "ties", "leaders", "strengths", "state", "pushes", "seen", "unknown", "no way"] : List Str)).getD k ""
def fieldOf (k : Nat) : Str := if k = 0 ∨ k = 1 ∨ k = 2 ∨ k = 10 then "given" else "index"
def baseOf (k : Nat) : Nat := if k = 10 then 1 else 0
structure TE20 (mg : Str → Option Value) : Prop where
  isi : mg "isinstance" = none
  rep : mg "repr" = none
  rng : mg "range" = none
  len : mg "len" = none
theorem vis_ref {a : Addr} : ∀ u, RelV (.ref a) u → u = Value.ref a := fun _ h => h
/-- data that may be shown -/
structure Shows (K : PySem.W.Frag) (G : Hp) (v : V) (d : PyData) : Prop where
  dp : Dp K G v d
  fine : Fine d 20 100000
  num : ∀ i, v = .int i → i.natAbs.log2 < 1920

/-- not tracked before, but maybe as a table -/
def Fresh (G : Hp) (r : Addr) : Prop := G r = none ∨ ∃ ps, G r = some (.tbl ps)
theorem fresh_of {G G' : Hp} {r : Addr} (e : ExtN G G') (n : G' r = none) : Fresh G r := by
  cases c : G r with
  | none => exact .inl c
  | some o =>
    cases o with
    | tbl ps => exact .inr ⟨ps, c⟩
    | _ =>
      have q := e r _ c (fun ps z => nomatch z)
      rw [n] at q
      cases q
theorem Fresh.ne {G : Hp} {r D : Addr} {xs : List V} (h : Fresh G r) (q : G D = some (.lst xs)) : r ≠ D := fun e => by
  rw [e] at h
  rcases h with h | ⟨ps, h⟩ <;> rw [q] at h <;> cases h
/-! ### the rows of the suite -/
abbrev FRow := Addr × Bool × Str
def rowsV (R : List FRow) : List V := R.map fun r => V.ref r.1
def RowsIn (G : Hp) (R : List FRow) : Prop := ∀ r ∈ R, G r.1 = some (.lst [.bl r.2.1, .str r.2.2])
theorem RowsIn.same {G G' : Hp} {R : List FRow} (h : RowsIn G R) (s : Same G G') : RowsIn G' R := fun r hr => s _ _ (h r hr)
section
variable {K : PySem.W.Frag} {e D dd c1 c2 : Addr} {b1 b2 : Bool} {s1 s2 : Str} {sg : L2.St} {G : Hp} {Z : VK} {fs : List (Str × V)}
theorem tLst_eq (t : TA) (sg : L2.St) (G : Hp) (Z : VK) : tLst t sg G Z = t sg G (fun xs G1 => xs.length ≤ sizeLine ∧ ∀ p, G1 p = none → Z (.ref p) (upd G1 p (.lst xs))) := rfl
theorem tCons_eq (t : TE) (r : TA) (sg : L2.St) (G : Hp) (Z : List V → Hp → Prop) : tCons t r sg G Z = t sg G (fun x G1 => r sg G1 fun xs G2 => Z (x :: xs) G2) := rfl
theorem seq_asg (te : TE) (g : TG) (u : TS) (D : Ends) (sg : L2.St) (G : Hp) : tSeq (tAsg te g) u D sg G = te sg G (fun v G1 => g v sg G1 (u D)) := rfl
theorem next_eq (D : Ends) (sg : L2.St) (G : Hp) : tNext D sg G = D.nx sg G := rfl
theorem gName_eq (i : Nat) (v : V) (sg : L2.St) (G : Hp) (Z : L2.St → Hp → Prop) : gName i v sg G Z = Z (sg.set i (some v)) G := rfl
theorem is_run (ex : ExcC K D) (kit : PySem.W.kitOne K (.ref D) (.ref c1) = some b1) (hs : sg[2]? = some (some (.ref e))) (ed : G dd = some (.xd fs)) (k : Z (.bl b1) G) :
    tCB (rIsX K e (.ref D) (some dd)) (tCons (tVar 2) (tCons (tC (.ref c1)) tNil)) sg G Z :=
  ⟨_, hs, D, _, .ref c1, b1, rfl, ex, rfl, vis_ref, kit, fun d h => ⟨fs, by cases h; exact ed⟩, k⟩
theorem row_run (ex : ExcC K D) (kit : PySem.W.kitOne K (.ref D) (.ref c1) = some b1) (hs : sg[2]? = some (some (.ref e))) (ed : G dd = some (.xd fs)) (k : ∀ p, G p = none → Z (.ref p) (upd G p (.lst [.bl b1, .str s1]))) :
    tLst (tCons (tCB (rIsX K e (.ref D) (some dd)) (tCons (tVar 2) (tCons (tC (.ref c1)) tNil))) (tCons (tC (.str s1)) tNil)) sg G Z :=
  is_run ex kit hs ed ⟨by show 2 ≤ sizeLine; decide, fun p hp => k p hp⟩
theorem pair_run (ex : ExcC K D) (kit1 : PySem.W.kitOne K (.ref D) (.ref c1) = some b1) (kit2 : PySem.W.kitOne K (.ref D) (.ref c2) = some b2) (hs : sg[2]? = some (some (.ref e))) (ed : G dd = some (.xd fs))
    (k : ∀ p q r G', Same G G' → RowsIn G' [(p, b1, s1), (q, b2, s2)] → G' r = some (.lst (rowsV [(p, b1, s1), (q, b2, s2)])) → Z (.ref r) G') :
    tLst (tCons (tLst (tCons (tCB (rIsX K e (.ref D) (some dd)) (tCons (tVar 2) (tCons (tC (.ref c1)) tNil))) (tCons (tC (.str s1)) tNil)))
      (tCons (tLst (tCons (tCB (rIsX K e (.ref D) (some dd)) (tCons (tVar 2) (tCons (tC (.ref c2)) tNil))) (tCons (tC (.str s2)) tNil))) tNil)) sg G Z := by
  rw [tLst_eq, tCons_eq]
  refine row_run ex kit1 hs ed fun p hp => ?_
  have s0 : Same G (upd G p (.lst [.bl b1, .str s1])) := (Same.refl G).new hp
  rw [tCons_eq]
  refine row_run ex kit2 hs (s0 _ _ ed) fun q hq => ⟨by show 2 ≤ sizeLine; decide, fun r hr => ?_⟩
  have sq := (s0.new hq (o := .lst [.bl b2, .str s2]))
  refine k p q r _ (sq.new hr) (fun x hx => ?_) upd_same
  have e1 : upd (upd G p (.lst [.bl b1, .str s1])) q (.lst [.bl b2, .str s2]) p = some (.lst [.bl b1, .str s1]) := by
    rw [upd_ne (ne_of_none upd_same hq), upd_same]
  simp only [List.mem_cons, List.not_mem_nil, or_false] at hx
  rcases hx with rfl | rfl
  · exact (upd_ne (ne_of_none e1 hr)).trans e1
  · exact (upd_ne (ne_of_none upd_same hr)).trans upd_same
theorem cat_run {N : Addr} {R : List FRow} (ex : ExcC K D) (kit1 : PySem.W.kitOne K (.ref D) (.ref c1) = some b1) (kit2 : PySem.W.kitOne K (.ref D) (.ref c2) = some b2) (hs : sg[2]? = some (some (.ref e))) (ed : G dd = some (.xd fs))
    (h3 : sg[3]? = some (some (.ref N))) (wN : G N = some (.lst (rowsV R))) (iR : RowsIn G R) (few : R.length ≤ 20)
    (k : ∀ p q N2 G', Same G G' → RowsIn G' (R ++ [(p, b1, s1), (q, b2, s2)]) → G' N2 = some (.lst (rowsV (R ++ [(p, b1, s1), (q, b2, s2)]))) → Z (.ref N2) G') :
    tOp rCat (tVar 3) (tLst (tCons (tLst (tCons (tCB (rIsX K e (.ref D) (some dd)) (tCons (tVar 2) (tCons (tC (.ref c1)) tNil))) (tCons (tC (.str s1)) tNil)))
      (tCons (tLst (tCons (tCB (rIsX K e (.ref D) (some dd)) (tCons (tVar 2) (tCons (tC (.ref c2)) tNil))) (tCons (tC (.str s2)) tNil))) tNil))) sg G Z := by
  refine ⟨_, h3, pair_run ex kit1 kit2 hs ed fun p q r G1 t1 i1 w1 => ?_⟩
  refine ⟨N, r, _, _, rfl, rfl, t1 _ _ wN, w1, ?_, fun n hn => k p q n _ (t1.new hn) (fun x hx => ?_) ?_⟩
  · unfold rowsV
    rw [List.length_map, List.length_map]
    exact Nat.le_of_lt (small1000 (by simp only [List.length_cons, List.length_nil]; omega))
  · have q1 : G1 x.1 = some (.lst [.bl x.2.1, .str x.2.2]) := by
      rcases List.mem_append.mp hx with hx | hx
      · exact t1 _ _ (iR x hx)
      · exact i1 x hx
    exact (upd_ne (ne_of_none q1 hn)).trans q1
  · rw [upd_same]
    unfold rowsV
    rw [List.map_append]
theorem words_run {N : Addr} {R : List FRow} (F : List (Bool × Str)) (hF : R.map (·.2) = F) (h3 : sg[3]? = some (some (.ref N))) (h7 : ∀ v : V, ((wipe sg [7]).set 7 (some v))[7]? = some (some v)) (wN : G N = some (.lst (rowsV R))) (iR : RowsIn G R)
    (sz : (((F.filter fun r => r.1).map fun r => r.2).map (·.length)).sum ≤ 100) (few : R.length ≤ 20)
    (k : ∀ G', Same G G' → Z (.str (Txt.join "" ((F.filter fun r => r.1).map fun r => r.2))) G') :
    tM1 (rJoin K) (tC (.str "")) (tLc (iList K (tVar 3)) (gName 7) (tTest (tOp (rIxL K) (tVar 7) (tC (.int 0)))) (tOp (rIxL K) (tVar 7) (tC (.int 1))) [7]) sg G Z := by
  subst hF
  refine ⟨⟨_, rfl⟩, _, h3, N, rfl, ⟨_, SqL.of wN⟩, fun L hL => lc_list (K := K) (a := N) (xs := rowsV R) (fun i G' => Same G G' ∧ G' L = some (.lst (((((R.take i).map (·.2)).filter fun r => r.1).map fun r => r.2).map V.str))) ⟨(Same.refl G).new hL, upd_same⟩ (fun i G' _ t => SqL.of (t.1 _ _ wN)) ?_ ?_⟩
  · rintro i x G1 hi ⟨t1, eL⟩
    obtain ⟨r, hr, rfl⟩ : ∃ r, R[i]? = some r ∧ x = V.ref r.1 := by
      unfold rowsV at hi
      rw [List.getElem?_map] at hi
      cases c : R[i]? with
      | none =>
        rw [c] at hi
        cases hi
      | some r =>
        rw [c] at hi
        exact ⟨r, rfl, (Option.some.inj hi).symm⟩
    have row := t1 _ _ (iR r (List.mem_of_getElem? hr))
    have tk : (((R.take (i + 1)).map (·.2)).filter fun r => r.1).map (fun r => r.2) = (((R.take i).map (·.2)).filter fun r => r.1).map (fun r => r.2) ++ (if r.2.1 = true then [r.2.2] else []) := by
      rw [List.take_succ, hr, List.map_append, List.filter_append, List.map_append]
      congr 1
      show List.map _ (List.filter _ [r.2]) = _
      rw [List.filter_cons, List.filter_nil]
      cases r.2.1 <;> rfl
    refine ⟨by simp [wipe], _, h7 _, r.1, _, 0, _, rfl, rfl, SqL.of row, rfl, r.2.1, rfl, ?_⟩
    cases c : r.2.1 with
    | true =>
      rw [c, if_pos rfl] at tk
      refine iteT ⟨_, h7 _, r.1, _, 1, _, rfl, rfl, SqL.of row, rfl, _, eL, ?_, fun b u q => ?_, ?_⟩
      · rw [List.length_map, List.length_map]
        refine small1000 (Nat.le_trans (List.length_filter_le _ _) ?_)
        rw [List.length_map, List.length_take]
        omega
      · exact (upd_ne (ne_of_none q hL)).trans (t1 b u q)
      · rw [upd_same, tk, List.map_append]
        rfl
    | false =>
      rw [c, if_neg Bool.false_ne_true, List.append_nil] at tk
      rw [tk]
      exact iteF ⟨t1, eL⟩
  · rintro G1 ⟨t1, eL⟩
    have len : (rowsV R).length = R.length := List.length_map _
    rw [len, List.take_length] at eL
    refine ⟨_, L, _, rfl, rfl, .inl (SqL.of eL), ?_, k G1 t1⟩
    show _ + _ * 0 ≤ _
    omega
end
def wordsL : List Str := ["text", "number", "works", "parts", "ties", "leaders", "strengths", "state", "pushes", "seen", "unknown", "no way"]
def flagW (k : Nat) : List (Bool × Str) := wordsL.zipIdx.map fun w => (decide (k = w.2), w.1)
theorem flag_word : ∀ k < 12, Txt.join "" (((flagW k).filter fun r => r.1).map fun r => r.2) = wordOf k ∧ (((flagW k).filter fun r => r.1).map fun r => r.2).length ≤ 12 ∧ ((((flagW k).filter fun r => r.1).map fun r => r.2).map (·.length)).sum ≤ 100 := by decide +kernel
theorem word_some : ∀ k < 12, wordOf k ≠ "" := by decide +kernel
theorem word_ways : ∀ k < 11, (wordOf k = "unknown" ↔ k = 10) ∧ wordOf k ≠ "no way" := by decide +kernel
theorem word_given : ∀ k < 11, inV (.str (wordOf k)) [.str "text", .str "number", .str "works", .str "unknown"] = decide (k = 0 ∨ k = 1 ∨ k = 2 ∨ k = 10) := by decide +kernel
def Told (K : PySem.W.Frag) (v : V) (a b : Str) (G : Hp) : Prop := a = "told" ∧ ∃ d, Shows K G v d ∧ b = d.shown
def Erred (K : PySem.W.Frag) (c : ECls) (cls : Value) (d : Option Addr) (a b : Str) (G : Hp) : Prop := ∃ (D dd : Addr) (k : Nat) (v : V) (x : PyData), k < 11 ∧ Kind K c D k (baseOf k) ∧ cls = .ref D ∧ d = some dd ∧
  G dd = some (.xd [(fieldOf k, v)]) ∧ PySem.W.findIn K (.ref D) (fieldOf k) = some none ∧ Shows K G v x ∧ a = wordOf k ∧ b = x.shown
mutual
theorem dp_ext {K : PySem.W.Frag} {G G' : Hp} (e : ExtN G G') : ∀ {v : V} {d : PyData}, Dp K G v d → Dp K G' v d
  | _, _, .non => .non
  | _, _, .bl b => .bl b
  | _, _, .int i => .int i
  | _, _, .str z => .str z
  | _, _, .lst q h => .lst (ext_seqL e q) (dps_ext e h)
  | _, _, .tup q h => .tup (ext_seqT e q) (dps_ext e h)
theorem dps_ext {K : PySem.W.Frag} {G G' : Hp} (e : ExtN G G') : ∀ {vs : List V} {ds : List PyData}, DpAll K G vs ds → DpAll K G' vs ds
  | _, _, .nil => .nil
  | _, _, .cons h t => .cons (dp_ext e h) (dps_ext e t)
end
theorem Shows.later {K : PySem.W.Frag} {G G' : Hp} {v : V} {d : PyData} (h : Shows K G v d) (e : ExtN G G') : Shows K G' v d := ⟨dp_ext e h.dp, h.fine, h.num⟩
section
variable {K : PySem.W.Frag} {sg : L2.St} {G : Hp} {Z : VK}
theorem base_run {k : Nat} (hk : k < 11) (h4 : sg[4]? = some (some (.str (wordOf k)))) (q : Z (.int (baseOf k : Nat)) G) :
    tIf (tTest (tOp rEq (tVar 4) (tC (.str "unknown")))) (tC (.int 1)) (tIf (tTest (tOp rEq (tVar 4) (tC (.str "no way")))) (tC (.int 2)) (tC (.int 0))) sg G Z := by
  obtain ⟨w1, w2⟩ := word_ways k hk
  refine ⟨_, h4, rfl, _, rfl, ?_⟩
  by_cases e : k = 10
  · rw [decide_eq_true (show V.str (wordOf k) = V.str "unknown" by rw [w1.mpr e])]
    refine iteT ?_
    rw [show baseOf k = 1 from if_pos e] at q
    exact q
  · rw [decide_eq_false (show ¬ V.str (wordOf k) = V.str "unknown" from fun z => e (w1.mp (V.str.inj z)))]
    refine iteF ⟨_, h4, rfl, _, rfl, ?_⟩
    rw [decide_eq_false (show ¬ V.str (wordOf k) = V.str "no way" from fun z => w2 (V.str.inj z))]
    refine iteF ?_
    rw [show baseOf k = 0 from if_neg e] at q
    exact q
theorem bases_run {b : Nat} {B : Addr} (hb : b < 2) (h5 : sg[5]? = some (some (.ref B))) (wB : G B = some (.lst [.bl (decide (b = 0)), .bl (decide (b = 1)), .bl (decide (b = 2))]))
    (h8 : ∀ v : V, ((wipe sg [8]).set 8 (some v))[8]? = some (some v)) (h6 : ∀ v : V, ((wipe sg [8]).set 8 (some v))[6]? = some (some (.int (b : Nat)))) (q : ∀ G', Same G G' → Z (.bl false) G') :
    tOp (rNeD K) (tVar 5) (tLc (iRng1 (tCons (tC (.int 3)) tNil)) (gName 8) tYes (tOp rEq (tVar 8) (tVar 6)) [8]) sg G Z := by
  refine ⟨_, h5, 3, rfl, by decide, by decide, fun L hL => lc_range (lo := 0) (n := 3) (fun i G' => Same G G' ∧ G' L = some (.lst ((List.range i).map fun j : Nat => V.bl (decide (V.int (0 + (j : Int)) = V.int (b : Nat)))))) ⟨(Same.refl G).new hL, upd_same⟩ ?_ ?_⟩
  · rintro i G1 hi ⟨t1, eL⟩
    refine ⟨by simp [wipe], _, h8 _, _, h6 _, rfl, _, eL, by rw [List.length_map, List.length_range]; exact small1000 (by omega), fun b u z => (upd_ne (ne_of_none z hL)).trans (t1 b u z), ?_⟩
    rw [upd_same, List.range_succ, List.map_append]
    rfl
  · rintro G1 ⟨t1, eL⟩
    have fine3 : Fine (.list [.bool (decide (b = 0)), .bool (decide (b = 1)), .bool (decide (b = 2))]) 1 10 := (FineAll.cons (Fine.bool _) (FineAll.cons (Fine.bool _) (FineAll.cons (Fine.bool _) FineAll.nil))).list.mono (by decide) (by decide)
    have e1 : [V.bl (decide (b = 0)), V.bl (decide (b = 1)), V.bl (decide (b = 2))] = (List.range 3).map fun j : Nat => V.bl (decide (V.int (0 + (j : Int)) = V.int (b : Nat))) := by
      rcases (show b = 0 ∨ b = 1 by omega) with rfl | rfl <;> decide
    rw [← e1] at eL
    have dp : ∀ {A : Addr}, G1 A = some (.lst [.bl (decide (b = 0)), .bl (decide (b = 1)), .bl (decide (b = 2))]) → Dp K G1 (.ref A) (.list [.bool (decide (b = 0)), .bool (decide (b = 1)), .bool (decide (b = 2))]) := fun h => .lst (SqL.of h) (.cons (.bl _) (.cons (.bl _) (.cons (.bl _) .nil)))
    refine ⟨_, _, dp (t1 _ _ wB), dp eL, fine3.shaped (by decide), fine3.shaped (by decide), ?_⟩
    rw [SeqAt.eqv_refl _ fine3.lay]
    exact q G1 t1
end
/-- a thunk that ends so: the word a, and b -/
def EndsAs (P : Program) (w : World) (K : PySem.W.Frag) (mg : Str → Option Value) (base : Heap) (c : ECls) (n : Nat) (f : Addr) (G : Hp) (a b : Str) : Prop := ∃ sp, Thk P w K mg base n f G sp ∧ ∀ G' Z E, ExtN G G' →
  (∀ v G1, ExtT G' G1 → Told K v a b G1 → Z v G1) → (∀ cls d G1, ExtT G' G1 → Erred K c cls d a b G1 → E cls d G1) → sp G' Z E
theorem EndsAs.later {P : Program} {w : World} {K : PySem.W.Frag} {mg : Str → Option Value} {base : Heap} {c : ECls} {n : Nat} {f : Addr} {G G' : Hp} {a b : Str} (h : EndsAs P w K mg base c n f G a b) (e : ExtN G G') : EndsAs P w K mg base c n f G' a b := by
  obtain ⟨sp, t, i⟩ := h
  exact ⟨sp, t.later e, fun G2 Z E e2 => i G2 Z E (e.trans e2)⟩
def spEnded (P : Program) (w : World) (K : PySem.W.Frag) (mg : Str → Option Value) (base : Heap) (c : ECls) (n : Nat) : Sp := fun vs G Z _ => ∃ f a b, vs = [.ref f] ∧ EndsAs P w K mg base c n f G a b ∧
  ∀ G' r, ExtT G G' → Fresh G r → G' r = some (.lst [.str a, .str b]) → Z (.ref r) G'
section
variable {P : Program} {w : World} {K : PySem.W.Frag} {mg : Str → Option Value} {base : Heap} {c : ECls}
abbrev nEnded : List Str := ["_law_act", "_law_came", "e", "_law_names", "_law_word_here", "_law_bases", "_law_base", "_law_pair", "_law_k"]
theorem scEnded : FnScope nEnded ["_law_act"] (defScope sEnded) := ⟨rfl, rfl, rfl, by decide +kernel, rfl, by decide +kernel, by decide +kernel⟩
theorem ok_ended {f : Addr} {fd : FuncData} {n : Nat} (F : Fun K "_law_ended" "_law_ended" sEnded f fd) (T : TE20 mg) (M : EMg mg c) :
    FnG P w K mg base CX0 (n + 1) f fd ["_law_act"] (spEnded P w K mg base c n) := by
  refine FnG.mk' F scEnded (fun vs G Z E h => ?_) (fun cdv A out st G vs Z E hr gs h => ?_)
  · obtain ⟨y, a, b, rfl, _⟩ := h
    rfl
  · obtain ⟨y, a, b, rfl, ends, fin⟩ := h
    have ru : (cxOf CX0 P w K mg base nEnded "_law_ended" (defScope sEnded) f cdv A out st G E).nox.A.units + 65 < cLine := by
      have := hr.un
      show (A.deeper _).units + 65 < cLine
      omega
    have hu : (cxOf CX0 P w K mg base nEnded "_law_ended" (defScope sEnded) f cdv A out st G E).nox.A.units + 64 < cLine := by omega
    have rg : (cxOf CX0 P w K mg base nEnded "_law_ended" (defScope sEnded) f cdv A out st G E).nox.A.guards = some [] := gs
    refine ⟨_, (pss_cons (ps_try_as3 (c1 := .ref c.v) (c2 := .ref c.m) (c3 := .ref c.z) rfl rfl scEnded.nd (i := 2) rfl rfl ⟨rfl, by decide, .inl M.v⟩ ⟨rfl, by decide, .inl M.m⟩ ⟨rfl, by decide, .inl M.z⟩
        (fun W pn xe tk _ => pss_one (ps_set (i := 1) scEnded.nd rfl (Or.inl rfl) (pe_thk P w K mg base (n := n) (i := 0) (by exact hr) (by exact rg) tk rfl (Or.inl rfl))))
        (fun a oe cls d pn hz hf => (pss_cons (ps_set (i := 3) scEnded.nd rfl (Or.inl rfl) (pe_lst (pa_cons (pe_lst (pa_cons (pe_callB (call_isX hz.zc hf) (by rfl) T.isi boot_isinstance (pa_cons (pv 2) (pa_cons (pe_glob (v := .ref c.t) rfl M.t rfl) pa_nil))) (pa_cons pe_str pa_nil))) (pa_cons (pe_lst (pa_cons (pe_callB (call_isX hz.zc hf) (by rfl) T.isi boot_isinstance (pa_cons (pv 2) (pa_cons (pe_glob (v := .ref c.n) rfl M.n rfl) pa_nil))) (pa_cons pe_str pa_nil))) pa_nil))))
        (pss_cons (ps_set (i := 3) scEnded.nd rfl (Or.inl rfl) (pe_op op_cat (pv 3) (pe_lst (pa_cons (pe_lst (pa_cons (pe_callB (call_isX hz.zc hf) (by rfl) T.isi boot_isinstance (pa_cons (pv 2) (pa_cons (pe_glob (v := .ref c.w) rfl M.w rfl) pa_nil))) (pa_cons pe_str pa_nil))) (pa_cons (pe_lst (pa_cons (pe_callB (call_isX hz.zc hf) (by rfl) T.isi boot_isinstance (pa_cons (pv 2) (pa_cons (pe_glob (v := .ref c.p) rfl M.p rfl) pa_nil))) (pa_cons pe_str pa_nil))) pa_nil)))))
        (pss_cons (ps_set (i := 3) scEnded.nd rfl (Or.inl rfl) (pe_op op_cat (pv 3) (pe_lst (pa_cons (pe_lst (pa_cons (pe_callB (call_isX hz.zc hf) (by rfl) T.isi boot_isinstance (pa_cons (pv 2) (pa_cons (pe_glob (v := .ref c.i) rfl M.i rfl) pa_nil))) (pa_cons pe_str pa_nil))) (pa_cons (pe_lst (pa_cons (pe_callB (call_isX hz.zc hf) (by rfl) T.isi boot_isinstance (pa_cons (pv 2) (pa_cons (pe_glob (v := .ref c.l) rfl M.l rfl) pa_nil))) (pa_cons pe_str pa_nil))) pa_nil)))))
        (pss_cons (ps_set (i := 3) scEnded.nd rfl (Or.inl rfl) (pe_op op_cat (pv 3) (pe_lst (pa_cons (pe_lst (pa_cons (pe_callB (call_isX hz.zc hf) (by rfl) T.isi boot_isinstance (pa_cons (pv 2) (pa_cons (pe_glob (v := .ref c.s) rfl M.s rfl) pa_nil))) (pa_cons pe_str pa_nil))) (pa_cons (pe_lst (pa_cons (pe_callB (call_isX hz.zc hf) (by rfl) T.isi boot_isinstance (pa_cons (pv 2) (pa_cons (pe_glob (v := .ref c.a) rfl M.a rfl) pa_nil))) (pa_cons pe_str pa_nil))) pa_nil)))))
        (pss_cons (ps_set (i := 3) scEnded.nd rfl (Or.inl rfl) (pe_op op_cat (pv 3) (pe_lst (pa_cons (pe_lst (pa_cons (pe_callB (call_isX hz.zc hf) (by rfl) T.isi boot_isinstance (pa_cons (pv 2) (pa_cons (pe_glob (v := .ref c.u) rfl M.u rfl) pa_nil))) (pa_cons pe_str pa_nil))) (pa_cons (pe_lst (pa_cons (pe_callB (call_isX hz.zc hf) (by rfl) T.isi boot_isinstance (pa_cons (pv 2) (pa_cons (pe_glob (v := .ref c.e) rfl M.e rfl) pa_nil))) (pa_cons pe_str pa_nil))) pa_nil)))))
        (pss_cons (ps_set (i := 3) scEnded.nd rfl (Or.inl rfl) (pe_op op_cat (pv 3) (pe_lst (pa_cons (pe_lst (pa_cons (pe_callB (call_isX hz.zc hf) (by rfl) T.isi boot_isinstance (pa_cons (pv 2) (pa_cons (pe_glob (v := .ref c.k) rfl M.k rfl) pa_nil))) (pa_cons pe_str pa_nil))) (pa_cons (pe_lst (pa_cons (pe_callB (call_isX hz.zc hf) (by rfl) T.isi boot_isinstance (pa_cons (pv 2) (pa_cons (pe_glob (v := .ref c.y) rfl M.y rfl) pa_nil))) (pa_cons pe_str pa_nil))) pa_nil)))))
        (pss_cons (ps_set (i := 4) scEnded.nd rfl (Or.inl rfl) (pe_join3 K pe_str (pe_lcQ  (own := [("_law_pair", 7)]) (g := gName 7) (tt := tTest (tOp (rIxL K) (tVar 7) (tC (.int 0)))) (te := tOp (rIxL K) (tVar 7) (tC (.int 1))) (by exact hot_suite hz hf) scEnded.nd (piQ_list3 K (pv 3)) (blkOk_by (N := nEnded) (sc := defScope sEnded) (by decide +kernel))
              (fun _ _ _ _ _ => pg_name (i := 7) scEnded.nd rfl (Or.inl rfl)) (fun _ _ _ _ _ => pts_one (pt_val (pe_ix ix_list (pv 7) pe_int (fun _ _ => rfl)))) (fun _ _ _ _ _ => pe_ix ix_list (pv 7) pe_int (fun _ _ => rfl)))))
        (pss_cons (ps_if (pt_cmpR op_eq (pv 4) pe_str (nomark _)) (pss_one (ps_ret (pe_lst (pa_cons pe_str (pa_cons pe_str pa_nil))))) pss_nil)
        (pss_cons (ps_set (i := 5) scEnded.nd rfl (Or.inl rfl) (pe_lst (pa_cons (pe_callB (call_isX hz.zc hf) (by rfl) T.isi boot_isinstance (pa_cons (pv 2) (pa_cons (pe_glob (v := .ref c.v) rfl M.v rfl) pa_nil))) (pa_cons (pe_callB (call_isX hz.zc hf) (by rfl) T.isi boot_isinstance (pa_cons (pv 2) (pa_cons (pe_glob (v := .ref c.m) rfl M.m rfl) pa_nil))) (pa_cons (pe_callB (call_isX hz.zc hf) (by rfl) T.isi boot_isinstance (pa_cons (pv 2) (pa_cons (pe_glob (v := .ref c.z) rfl M.z rfl) pa_nil))) pa_nil)))))
        (pss_cons (ps_set (i := 6) scEnded.nd rfl (Or.inr rfl) (pe_ifExp (pt_cmpR op_eq (pv 4) pe_str (nomark _)) pe_int (pe_ifExp (pt_cmpR op_eq (pv 4) pe_str (nomark _)) pe_int pe_int)))
        (pss_cons (ps_if (pt_cmpR (op_neD3 K (by exact hu)) (pv 5) (pe_lcQ  (own := [("_law_k", 8)]) (g := gName 8) (tt := tYes) (te := tOp rEq (tVar 8) (tVar 6)) (by exact hot_suite hz hf) scEnded.nd (piQ_range1 rfl T.rng (pa_cons pe_int pa_nil)) (blkOk_by (N := nEnded) (sc := defScope sEnded) (by decide +kernel))
              (fun _ _ _ _ _ => pg_name (i := 8) scEnded.nd rfl (Or.inl rfl)) (fun _ _ _ _ _ => pts_nil) (fun _ _ _ _ _ => pe_cmpR op_eq (pv 8) (pv 6) (nomark _))) (nomark _)) (pss_one (ps_ret (pe_lst (pa_cons pe_str (pa_cons pe_str pa_nil))))) pss_nil)
        (pss_cons (ps_if (pt_cmpR op_eq (pv 4) pe_str (nomark _)) (pss_one (ps_ret (pe_lst (pa_cons (pv 4) (pa_cons pe_str pa_nil))))) pss_nil)
        (pss_one (ps_ret (pe_lst (pa_cons (pv 4) (pa_cons (pe_ifExp (pt_cmpR (op_in3 K) (pv 4) (pe_lst (pa_cons pe_str (pa_cons pe_str (pa_cons pe_str (pa_cons pe_str pa_nil))))) rfl)
              (pe_callB (r := reprV K) (call_reprV (by exact ru) (by exact rg)) (by rfl) T.rep boot_repr (pa_cons (pe_xf2 hz.zc hf (pv 2)) pa_nil)) (pe_callB (r := reprV K) (call_reprV (by exact ru) (by exact rg)) (by rfl) T.rep boot_repr (pa_cons (pe_xf2 hz.zc hf (pv 2)) pa_nil))) pa_nil)))))))))))))))))))
        (pss_one (ps_ret (pe_lst (pa_cons pe_str (pa_cons (pe_callB (call_reprV ru rg) (by rfl) T.rep boot_repr (pa_cons (pv 1) pa_nil)) pa_nil)))))), ?_⟩
    refine ⟨y, ends.choose, rfl, ends.choose_spec.1, ends.choose_spec.2 G _ _ (ExtN.refl G) (fun v G1 e1 t => ?_) (fun cls d G1 e1 er => ?_)⟩
    · obtain ⟨rfl, x, sh, rfl⟩ := t
      refine ⟨v, rfl, v, x, rfl, sh.dp, sh.fine.sho, sh.fine.shaped (by decide), sh.fine.fits (by decide) (by decide), sh.num, by show 2 ≤ sizeLine; decide, fun p hp => ?_⟩
      exact fin _ p (e1.new' hp) (fresh_of e1.n hp) upd_same
    · obtain ⟨D, dd, k, v, x, hk, kd, rfl, rfl, ed, hno, sh, rfl, rfl⟩ := er
      refine ⟨kd.any, fun e ne => ?_⟩
      dsimp only
      rw [seq_asg]
      refine pair_run kd.ex kd.k0 kd.k1 rfl ed fun p0 p1 n1 H1 t1 i1 w1 => ?_
      rw [gName_eq, seq_asg]
      refine cat_run kd.ex kd.k2 kd.k3 rfl (t1 _ _ ed) rfl w1 i1 (by show 2 ≤ 20; decide) fun p2 p3 n2 H2 t2 i2 w2 => ?_
      have t12 := t1.trans t2
      rw [gName_eq, seq_asg]
      refine cat_run kd.ex kd.k4 kd.k5 rfl (t12 _ _ ed) rfl w2 i2 (by show 4 ≤ 20; decide) fun p4 p5 n3 H3 t3 i3 w3 => ?_
      have t13 := t12.trans t3
      rw [gName_eq, seq_asg]
      refine cat_run kd.ex kd.k6 kd.k7 rfl (t13 _ _ ed) rfl w3 i3 (by show 6 ≤ 20; decide) fun p6 p7 n4 H4 t4 i4 w4 => ?_
      have t14 := t13.trans t4
      rw [gName_eq, seq_asg]
      refine cat_run kd.ex kd.k8 kd.k9 rfl (t14 _ _ ed) rfl w4 i4 (by show 8 ≤ 20; decide) fun p8 p9 n5 H5 t5 i5 w5 => ?_
      have t15 := t14.trans t5
      rw [gName_eq, seq_asg]
      refine cat_run kd.ex kd.k10 kd.k11 rfl (t15 _ _ ed) rfl w5 i5 (by show 10 ≤ 20; decide) fun pa pb n6 H6 t6 i6 w6 => ?_
      have t16 := t15.trans t6
      have k12 : k < 12 := by omega
      obtain ⟨fw, _, fsz⟩ := flag_word k k12
      rw [gName_eq, seq_asg]
      refine words_run (flagW k) rfl rfl (fun _ => rfl) w6 i6 fsz (by show 12 ≤ 20; decide) fun H7 t7 => ?_
      have t17 := t16.trans t7
      rw [fw, gName_eq]
      refine ⟨_, rfl, rfl, _, rfl, ?_⟩
      rw [decide_eq_false (show ¬ V.str (wordOf k) = V.str "" from fun z => word_some k k12 (V.str.inj z))]
      refine iteF ?_
      rw [next_eq]
      dsimp only
      rw [seq_asg, tLst_eq, tCons_eq]
      refine is_run kd.ex kd.b0 rfl (t17 _ _ ed) ?_
      rw [tCons_eq]
      refine is_run kd.ex kd.b1 rfl (t17 _ _ ed) ?_
      rw [tCons_eq]
      refine is_run kd.ex kd.b2 rfl (t17 _ _ ed) ⟨by show 3 ≤ sizeLine; decide, fun B hB => ?_⟩
      have t8 : Same H7 (upd H7 B (.lst [.bl (decide (baseOf k = 0)), .bl (decide (baseOf k = 1)), .bl (decide (baseOf k = 2))])) := (Same.refl H7).new hB
      have wB : (upd H7 B (.lst [.bl (decide (baseOf k = 0)), .bl (decide (baseOf k = 1)), .bl (decide (baseOf k = 2))])) B = some (.lst [.bl (decide (baseOf k = 0)), .bl (decide (baseOf k = 1)), .bl (decide (baseOf k = 2))]) := upd_same
      generalize (upd H7 B (.lst [.bl (decide (baseOf k = 0)), .bl (decide (baseOf k = 1)), .bl (decide (baseOf k = 2))])) = H8 at t8 wB ⊢
      rw [gName_eq, seq_asg]
      refine base_run hk rfl ?_
      rw [gName_eq]
      have b2 : baseOf k < 2 := by
        unfold baseOf
        split <;> decide
      refine bases_run (b := baseOf k) b2 rfl wB (fun _ => rfl) (fun _ => rfl) fun H9 t9 => ⟨_, rfl, ?_⟩
      have t19 := (t17.trans t8).trans t9
      refine iteF ⟨_, rfl, rfl, _, rfl, ?_⟩
      rw [decide_eq_false (show ¬ V.str (wordOf k) = V.str "no way" from fun z => (word_ways k hk).2 (V.str.inj z))]
      refine iteF ⟨_, rfl, _, rfl, by show 4 ≤ sizeLine; decide, fun p hp => ⟨p, _, rfl, .inl (SqL.of upd_same), rfl, rfl, _, rfl, ?_⟩⟩
      have ta := t19.new hp (o := .lst [.str "text", .str "number", .str "works", .str "unknown"])
      generalize (upd H9 p (.lst [.str "text", .str "number", .str "works", .str "unknown"])) = Ha at ta ⊢
      have edA := ta _ _ ed
      have shA := sh.later (ExtN.of ta)
      show if inV (.str (wordOf k)) [.str "text", .str "number", .str "works", .str "unknown"] = true then _ else _
      rw [word_given k hk]
      have last : ∀ {r : Addr}, Ha r = none → Z (.ref r) (upd Ha r (.lst [.str (wordOf k), .str x.shown])) := fun {r} hr =>
        fin _ r ((e1.trans (ExtT.of ta)).new' hr) (fresh_of (e1.trans (ExtT.of ta)).n hr) upd_same
      by_cases hg : k = 0 ∨ k = 1 ∨ k = 2 ∨ k = 10
      · rw [decide_eq_true hg]
        have ef : fieldOf k = "given" := if_pos hg
        rw [ef] at edA hno
        exact iteT ⟨_, rfl, rfl, D, dd, _, v, rfl, kd.xf, hno, rfl, edA, rfl, v, x, rfl, shA.dp, shA.fine.sho, shA.fine.shaped (by decide), shA.fine.fits (by decide) (by decide), shA.num, by show 2 ≤ sizeLine; decide, fun r hr => last hr⟩
      · rw [decide_eq_false hg]
        have ef : fieldOf k = "index" := if_neg hg
        rw [ef] at edA hno
        exact iteF ⟨_, rfl, rfl, D, dd, _, v, rfl, kd.xf, hno, rfl, edA, rfl, v, x, rfl, shA.dp, shA.fine.sho, shA.fine.shaped (by decide), shA.fine.fits (by decide) (by decide), shA.num, by show 2 ≤ sizeLine; decide, fun r hr => last hr⟩
end
end Fs

namespace Fs
open PySem PySem.Spec PyProof.Rows L2 LamX NdefX
def spIsEnded (P : Program) (w : World) (K : PySem.W.Frag) (mg : Str → Option Value) (base : Heap) (c : ECls) (n : Nat) : Sp := fun vs G Z _ => ∃ (A D : Addr) (fs : List Addr) (a b : Str), vs = [.ref A, .ref D] ∧ SqL K G A (fs.map V.ref) ∧ fs.length ≤ 50 ∧
  (∀ f ∈ fs, EndsAs P w K mg base c n f G a b) ∧ G D = some (.lst [.str a, .str b]) ∧ (∃ u, Fine (.list [.str a, .str b]) 2 u) ∧ ∀ G', ExtT G G' → Z (.bl true) G'
theorem dp_rep {K : PySem.W.Frag} {G : Hp} {d : PyData} : ∀ {rs : List Addr}, (∀ r ∈ rs, Dp K G (.ref r) d) → DpAll K G (rs.map V.ref) (List.replicate rs.length d)
  | [], _ => .nil
  | r :: t, h => .cons (h r List.mem_cons_self) (dp_rep fun x hx => h x (List.mem_cons_of_mem _ hx))
theorem rep_refs {D : Addr} : ∀ n : Nat, (List.replicate n [V.ref D]).flatten = (List.replicate n D).map V.ref
  | 0 => rfl
  | n + 1 => by rw [List.replicate_succ, List.flatten_cons, rep_refs n, List.replicate_succ, List.map_cons]; rfl
section
variable {P : Program} {w : World} {K : PySem.W.Frag} {mg : Str → Option Value} {base : Heap} {c : ECls}
abbrev nIsE : List Str := ["_law_acts", "_law_due_here", "_law_act"]
theorem scIsE : FnScope nIsE ["_law_acts", "_law_due_here"] (defScope sIsEnded) := ⟨rfl, rfl, rfl, by decide +kernel, rfl, by decide +kernel, by decide +kernel⟩
theorem ok_isEnded {f fE : Addr} {fd fdE : FuncData} {n : Nat} (F : Fun K "_law_is_ended" "_law_is_ended" sIsEnded f fd) (T : TE20 mg) (DE : DefAt K mg "_law_ended" ["_law_act"] sEnded fE fdE)
    (GE : FnG P w K mg base CX0 (n + 1) fE fdE ["_law_act"] (spEnded P w K mg base c n)) :
    FnG P w K mg base CX0 (n + 2) f fd ["_law_acts", "_law_due_here"] (spIsEnded P w K mg base c n) := by
  refine FnG.mk' F scIsE (fun vs G Z E h => ?_) (fun cdv A out st G vs Z E hr gs h => ?_)
  · obtain ⟨A, D, fs, a, b, rfl, _⟩ := h
    rfl
  · obtain ⟨L, D, fs, a, b, rfl, hL, few, ends, hD, ⟨u0, fine⟩, fin⟩ := h
    have hu : (cxOf CX0 P w K mg base nIsE "_law_is_ended" (defScope sIsEnded) f cdv A out st G E).nox.A.units + 64 < cLine := by
      have := hr.un
      show (A.deeper _).units + 64 < cLine
      omega
    have rg : (cxOf CX0 P w K mg base nIsE "_law_is_ended" (defScope sIsEnded) f cdv A out st G E).nox.A.guards = some [] := gs
    refine ⟨_, (pss_one (ps_ret (pe_cmpR (op_eqD hu) (pe_lc (own := [("_law_act", 2)]) (g := gName 2) (tt := tYes) (te := tCall (spEnded P w K mg base c n) [] E0 (tCons (tVar 2) tNil)) rfl scIsE.nd (pi_list (pv 0)) (blkOk_by (N := nIsE) (sc := defScope sIsEnded) (by decide +kernel))
        (fun _ _ _ _ _ => pg_name (i := 2) scIsE.nd rfl (Or.inl rfl)) (fun _ _ _ _ _ => pts_nil) (fun _ _ _ _ _ => pe_callG GE (by exact hr) (by exact rg) rfl DE.gl DE.kp DE.bd .nil pass0 (pa_cons (pv 2) pa_nil)))
      (pe_op op_rep (pe_lst (pa_cons (pv 1) pa_nil)) (pe_callB call_len_seq (by rfl) T.len PySem.boot_len (pa_cons (pv 0) pa_nil))) (nomark _)))), ?_⟩
    refine ⟨_, rfl, L, rfl, ⟨_, hL⟩, fun R hR => lc_list (K := K) (a := L) (xs := fs.map V.ref) (fun i G' => ∃ rs : List Addr, (ExtN G G' ∧ ∀ T, Tabs T G → Tabs T G') ∧ G' R = some (.lst (rs.map V.ref)) ∧ rs.length = i ∧ ∀ r ∈ rs, r ≠ R ∧ G' r = some (.lst [.str a, .str b]))
      ⟨[], ⟨ext_new (ExtN.refl G) hR, fun T h => h.ext ((Same.refl G).new hR)⟩, upd_same, rfl, fun _ m => (List.not_mem_nil m).elim⟩ (fun i G' _ ⟨_, e, _⟩ => ext_seqL e.1 hL) ?_ ?_⟩
    · rintro i x G1 hi ⟨rs, ⟨e1, t1⟩, eR, len, all⟩
      obtain ⟨y, hy, rfl⟩ : ∃ y, fs[i]? = some y ∧ x = V.ref y := by
        rw [List.getElem?_map] at hi
        cases q : fs[i]? with
        | none =>
          rw [q] at hi
          cases hi
        | some y =>
          rw [q] at hi
          exact ⟨y, rfl, (Option.some.inj hi).symm⟩
      have lt := (List.getElem?_eq_some_iff.mp hy).1
      refine ⟨by simp [wipe], _, rfl, y, a, b, rfl, (ends y (List.mem_of_getElem? hy)).later e1, fun G2 r e2 fr er => ?_⟩
      have rR : r ≠ R := fr.ne eR
      have eR2 : G2 R = some (.lst (rs.map V.ref)) := e2.n _ _ eR (fun ps z => nomatch z)
      refine ⟨_, eR2, by rw [List.length_map]; exact small1000 (by omega), rs ++ [r], ⟨fun b' o q t => ?_, fun T h => tabs_lst (e2.t T (t1 T h)) eR2 fun b' o ne q => (upd_ne ne).trans q⟩, by rw [upd_same, List.map_append]; rfl, by rw [List.length_append, len]; rfl, fun z hz => ?_⟩
      · have ne : b' ≠ R := ne_of_none q hR
        exact (upd_ne ne).trans (e2.n _ _ (e1 _ _ q t) t)
      · rcases List.mem_append.mp hz with hz | hz
        · obtain ⟨n1, n2⟩ := all z hz
          exact ⟨n1, (upd_ne n1).trans (e2.n _ _ n2 (fun ps z => nomatch z))⟩
        · obtain rfl := List.mem_singleton.mp hz
          exact ⟨rR, (upd_ne rR).trans er⟩
    · rintro G1 ⟨rs, ⟨e1, t1⟩, eR, len, all⟩
      rw [List.length_map] at len
      have hL1 := ext_seqL e1 hL
      have hD1 : G1 D = some (.lst [.str a, .str b]) := e1 _ _ hD (fun ps z => nomatch z)
      refine ⟨_, rfl, by show 1 ≤ sizeLine; decide, fun m hm => ⟨_, rfl, L, _, rfl, .inl (ext_seqL (ext_new' (ExtN.refl _) hm) hL1), m, _, _, rfl, rfl, upd_same, by omega, by rw [List.length_map]; omega, ?_, fun q hq => ?_⟩⟩
      · rw [List.length_map]
        show 1 * ((fs.length : Int).toNat) ≤ sizeLine
        exact Nat.le_of_lt (small1000 (by omega))
      · have nq : ((((fs.map V.ref).length : Nat) : Int)).toNat = fs.length := by rw [List.length_map]; omega
        rw [nq, rep_refs]
        have s1 : Same G1 (upd G1 m (.lst [.ref D])) := (Same.refl G1).new hm
        have s2 : Same G1 (upd (upd G1 m (.lst [.ref D])) q (.lst ((List.replicate fs.length D).map V.ref))) := s1.new hq
        have dp : ∀ {r : Addr}, (upd (upd G1 m (.lst [.ref D])) q (.lst ((List.replicate fs.length D).map V.ref))) r = some (.lst [.str a, .str b]) → Dp K (upd (upd G1 m (.lst [.ref D])) q (.lst ((List.replicate fs.length D).map V.ref))) (.ref r) (.list [.str a, .str b]) := fun h => .lst (SqL.of h) (.cons (.str _) (.cons (.str _) .nil))
        have d1 := dp_rep (K := K) (rs := rs) (d := .list [.str a, .str b]) fun r hr' => dp (s2 _ _ (all r hr').2)
        have d2 := dp_rep (K := K) (rs := List.replicate fs.length D) (d := .list [.str a, .str b]) fun r hr' => dp (by rw [List.eq_of_mem_replicate hr']; exact s2 _ _ hD1)
        rw [List.length_replicate] at d2
        rw [len] at d1
        have fineA : Fine (.list (List.replicate fs.length (.list [.str a, .str b]))) 3 ((u0 + 1) * 50) := by
          refine (FineAll.of (a := 2) (u := u0) (n := 50) (fun d hd => ?_) (by rw [List.length_replicate]; exact few)).list
          rw [List.eq_of_mem_replicate hd]
          exact fine
        refine ⟨_, _, .lst (SqL.of (s2 _ _ eR)) d1, .lst (SqL.of upd_same) d2, fineA.shaped (by decide), fineA.shaped (by decide), ?_⟩
        rw [SeqAt.eqv_refl _ fineA.lay]
        exact fin _ ⟨e1.trans (ExtN.of s2), fun T h => (t1 T h).ext s2⟩
end
end Fs

namespace Fs
open PySem PySem.Spec PyProof.Rows L2
abbrev sInit : Stmt := (inClass (top 27) 0)
/-- what an instance holds -/
def wf (p q : Addr) : List (Str × V) := putF "_ties" (.ref q) (putF "_parts" (.ref p) [])
theorem pt_ne : ¬ (("_parts" : Str) = "_ties") := by decide +kernel
theorem wf_eq (p q : Addr) : wf p q = ([("_parts", V.ref p), ("_ties", V.ref q)] : List (Str × V)) := by
  show (if ("_parts" : Str) = "_ties" then [(("_parts" : Str), V.ref q)] else (("_parts" : Str), V.ref p) :: putF "_ties" (V.ref q) []) = _
  rw [if_neg pt_ne]
  rfl
theorem wf_parts (p q : Addr) : (wf p q).lookup ("_parts" : Str) = some (.ref p) := by
  unfold wf
  rw [lookup_putF, if_neg pt_ne, lookup_putF, if_pos rfl]
theorem wf_ties (p q : Addr) : (wf p q).lookup ("_ties" : Str) = some (.ref q) := by
  unfold wf
  rw [lookup_putF, if_pos rfl]
theorem wf_no (p q : Addr) {m : Str} (h1 : ¬ m = "_ties") (h2 : ¬ m = "_parts") : (wf p q).lookup m = none := by
  unfold wf
  rw [lookup_putF, if_neg h1, lookup_putF, if_neg h2]
  rfl
structure TW (K : PySem.W.Frag) (mg : Str → Option Value) (C : Addr) : Prop where
  c : TC mg
  cl : Cls K C
  nP : NoAttr K C "_parts"
  nT : NoAttr K C "_ties"
  mgC : mg "Works" = some (.ref C)
/-- works that lie in a heap -/
structure WorksAt (K : PySem.W.Frag) (C : Addr) (G : Hp) (x p q : Addr) (xs : List Str) (L : List Tie) : Prop where
  ins : ∃ dx, G x = some (.ins C dx (wf p q))
  par : SqT K G p (xs.map V.str)
  tie : TiesAt K G q L
  ok : Valid xs
  rds : Roads xs L
theorem WorksAt.same {K : PySem.W.Frag} {C : Addr} {G G' : Hp} {x p q : Addr} {xs : List Str} {L : List Tie} (h : WorksAt K C G x p q xs L) (s : Same G G') : WorksAt K C G' x p q xs L :=
  ⟨h.ins.imp fun _ e => s _ _ e, Evl.ex_t s h.par, h.tie.same s, h.ok, h.rds⟩
def spInit (K : PySem.W.Frag) (C : Addr) : Sp := fun vs G Z _ => ∃ x p q dx xs L, vs = [.ref x, .ref p, .ref q] ∧ G x = some (.ins C dx []) ∧ SqT K G p (xs.map V.str) ∧ TiesAt K G q L ∧ Valid xs ∧ Roads xs L ∧
  ∀ G', Grow x G G' → G' x = some (.ins C dx (wf p q)) → Z .non G'
def pushed (xs : List Str) (L : List Tie) (z : Str) : List Str := xs.filter fun o => decide ((z, o) ∈ L.map (·.2))
def spPushes (K : PySem.W.Frag) (C : Addr) : Sp := fun vs G Z _ => ∃ x p q xs L z, vs = [.ref x, .str z] ∧ WorksAt K C G x p q xs L ∧ z ∈ xs ∧
  ∀ G' r, Same G G' → G r = none → G' r = some (.tup ((pushed xs L z).map V.str)) → Z (.ref r) G'
section
variable {P : Program} {w : World} {K : PySem.W.Frag} {mg : Str → Option Value} {base : Heap}
theorem scInit : FnScope ["self", "parts", "ties"] ["self", "parts", "ties"] (defScope sInit) := ⟨rfl, rfl, rfl, by decide +kernel, rfl, by decide +kernel, by decide +kernel⟩
theorem ok_init {f C fA fB : Addr} {fd fdA fdB : FuncData} {dvs : List V} (F : FunD K "__init__" "Works.__init__" (defArgs sInit) (defBody sInit) (defScope sInit) dvs [] f fd) (T : TW K mg C)
    (DA : DefAt K mg "_check_parts" ["parts"] sParts fA fdA) (GA : FnOk P w K mg base CX0 2 fA fdA ["parts"] (spParts K))
    (DB : DefAt K mg "_check_ties" ["ties", "parts"] sTies fB fdB) (GB : FnOk P w K mg base CX0 3 fB fdB ["ties", "parts"] (spTies K)) :
    FnOk P w K mg base CX0 4 f fd ["self", "parts", "ties"] (spInit K C) := by
  refine F.ok scInit (fun vs G Z E h => ?_) (fun cdv A out st G vs Z E hr h => ?_)
  · obtain ⟨x, p, q, dx, xs, L, rfl, _⟩ := h
    rfl
  · obtain ⟨x, p, q, dx, xs, L, rfl, hx, hp, hq, ok, rds, fin⟩ := h
    refine ⟨_, pss_cons (ps_expr (pe_call GA (hr.mono (by decide)) rfl DA.gl DA.kp DA.bd .nil pass0 (pa_cons (pv 1) pa_nil)))
      (pss_cons (ps_expr (pe_call GB hr rfl DB.gl DB.kp DB.bd .nil pass0 (pa_cons (pv 2) (pa_cons (pv 1) pa_nil))))
      (pss_cons (ps_fld (pv 0) (pv 1) rfl) (pss_one (ps_fld (pv 0) (pv 2) rfl)))), ?_⟩
    refine ⟨_, rfl, p, xs, rfl, hp, ok, fun G1 s1 => ?_⟩
    refine ⟨_, rfl, _, rfl, q, p, xs, L, rfl, hq.same s1, Evl.ex_t s1 hp, ok, rds, fun G2 s2 => ?_⟩
    have h2 := s2 _ _ (s1 _ _ hx)
    refine ⟨_, rfl, _, rfl, x, C, dx, [], rfl, h2, T.cl, T.nP, (by show 0 < 1000; decide), _, rfl, _, rfl, x, C, dx, _, rfl, upd_same, T.cl, T.nT, (by show 1 < 1000; decide), ?_⟩
    refine fin _ (((Grow.of (s1.trans s2)).at_).at_) ?_
    rw [upd_same]
    rfl
end
end Fs

namespace Fs
open PySem PySem.Spec PyProof.Rows L2
abbrev sRight : Stmt := (top 37)
abbrev sQuiet : Stmt := (top 38)
abbrev sLaw : Stmt := (top 39)
theorem made_same {G G' : Hp} {x dx C : Addr} (nx : G x = none) (nd : G dx = none) (g : Grow x (upd (upd G dx (.own x)) x (.ins C dx [])) G') : Same G G' := fun b o q => by
  have b1 : b ≠ x := ne_of_none q nx
  refine g b o b1 ?_
  rw [upd_ne b1, upd_ne (ne_of_none q nd)]
  exact q
theorem init_ok {K : PySem.W.Frag} {C : Addr} {G : Hp} {p q : Addr} {xs : List Str} {L : List Tie} {Y : Addr → Hp → Prop} {E : XK} (hp : SqT K G p (xs.map V.str)) (hq : TiesAt K G q L) (ok : Valid xs) (rds : Roads xs L)
    (k : ∀ x G', Same G G' → G x = none → WorksAt K C G' x p q xs L → Y x G') (x dx : Addr) (nx : G x = none) (nd : G dx = none) (ne : dx ≠ x) :
    spInit K C [.ref x, .ref p, .ref q] (upd (upd G dx (.own x)) x (.ins C dx [])) (fun v H2 => v = .non ∧ Y x H2) E := by
  have s0 : Same G (upd (upd G dx (.own x)) x (.ins C dx [])) := made_same nx nd (Grow.refl x _)
  refine ⟨x, p, q, dx, xs, L, rfl, upd_same, Evl.ex_t s0 hp, hq.same s0, ok, rds, fun G' g e => ⟨rfl, ?_⟩⟩
  have s := made_same nx nd g
  exact k x G' s nx ⟨⟨dx, e⟩, Evl.ex_t s hp, hq.same s, ok, rds⟩
theorem Roads.rev {xs : List Str} {L : List Tie} (h : Roads xs L) : Roads xs L.reverse := by
  refine ⟨?_, fun e he => h.2 e (List.mem_reverse.mp he)⟩
  rw [List.map_reverse]
  exact (List.reverse_perm _).nodup_iff.mpr h.1
theorem pushed_rev {xs : List Str} {L : List Tie} {z : Str} : pushed xs L.reverse z = pushed xs L z := by
  unfold pushed
  apply List.filter_congr
  intro o _
  rw [List.map_reverse]
  simp
theorem swap_nodup : ∀ {l : List (Str × Str)}, l.Nodup → (l.map fun e => (e.2, e.1)).Nodup
  | [], _ => List.nodup_nil
  | e :: r, h => by
    obtain ⟨h1, h2⟩ := List.nodup_cons.mp h
    refine List.nodup_cons.mpr ⟨fun m => h1 ?_, swap_nodup h2⟩
    obtain ⟨u, hu, q⟩ := List.mem_map.mp m
    obtain ⟨u1, u2⟩ := u
    obtain ⟨e1, e2⟩ := e
    cases q
    exact hu
theorem swap_mem {l : List (Str × Str)} {a b : Str} : ((a, b) ∈ l.map fun e => (e.2, e.1)) ↔ (b, a) ∈ l := by
  constructor
  · intro h
    obtain ⟨⟨u1, u2⟩, hu, q⟩ := List.mem_map.mp h
    cases q
    exact hu
  · intro h
    exact List.mem_map.mpr ⟨(b, a), h, rfl⟩
/-- [two for two in heads if (.., ..) in roads] -/
theorem lc_pick {K : PySem.W.Frag} {G : Hp} {sg : L2.St} {ia ib : Nat} {p q : Addr} {xs : List Str} {L : List Tie} {Z : VK} (fa fb : Str → Str) (hp : SqT K G p (xs.map V.str)) (hq : TiesAt K G q L) (ok : Valid xs) (rds : Roads xs L)
    (h2 : sg[2]? = some (some (.ref p))) (ha : ∀ y : Str, ((wipe sg [12]).set 12 (some (.str y)))[ia]? = some (some (.str (fa y)))) (hb : ∀ y : Str, ((wipe sg [12]).set 12 (some (.str y)))[ib]? = some (some (.str (fb y))))
    (h3 : ∀ y : Str, ((wipe sg [12]).set 12 (some (.str y)))[3]? = some (some (.ref q))) (h12 : ∀ y : Str, ((wipe sg [12]).set 12 (some (.str y)))[12]? = some (some (.str y)))
    (lay : ∀ y ∈ xs, (tieD (fa y, fb y)).canLay0 = true)
    (k : ∀ D G', Same G G' → G D = none → G' D = some (.lst ((xs.filter fun y => decide ((fa y, fb y) ∈ L.map (·.2))).map V.str)) → Z (.ref D) G') :
    tLc (iTup K (tVar 2)) (gName 12) (tTest (tOp (inT K) (tTup (tCons (tVar ia) (tCons (tVar ib) tNil))) (tVar 3))) (tVar 12) [12] sg G Z := by
  refine ⟨_, h2, p, rfl, ⟨_, hp⟩, fun D hD => ?_⟩
  let f : Str → Bool := fun y => decide ((fa y, fb y) ∈ L.map (·.2))
  refine lc_tup (K := K) (a := p) (xs := xs.map V.str) (fun i G' => Same G G' ∧ G' D = some (.lst (((xs.take i).filter f).map V.str))) ⟨(Same.refl G).new hD, upd_same⟩ (fun i G' _ s => Evl.ex_t s.1 hp) ?_ ?_
  · rintro i y G1 hi ⟨s1, eD⟩
    obtain ⟨o, ho, rfl⟩ : ∃ o, xs[i]? = some o ∧ y = V.str o := by
      rw [List.getElem?_map] at hi
      cases e : xs[i]? with
      | none =>
        rw [e] at hi
        cases hi
      | some o =>
        rw [e] at hi
        exact ⟨o, rfl, (Option.some.inj hi).symm⟩
    have mo : o ∈ xs := List.mem_of_getElem? ho
    have tk : (xs.take (i + 1)).filter f = (xs.take i).filter f ++ (if f o = true then [o] else []) := by
      rw [List.take_succ, ho, List.filter_append]
      congr 1
      show List.filter _ [o] = _
      rw [List.filter_cons, List.filter_nil]
    refine ⟨by simp [wipe], _, ha o, _, hb o, by show 2 ≤ sizeLine; decide, fun t ht => ?_⟩
    have s2 : Same G (upd G1 t (.tup [.str (fa o), .str (fb o)])) := s1.new ht
    have Dt : D ≠ t := ne_of_none eD ht
    refine ⟨_, h3 o, tieD (fa o, fb o), _, dp_tie (SqT.of upd_same), (hq.same s2).dp, tieD_shaped (lay o mo), tieDs_shaped (roads_lay ok rds), _, rfl, ?_⟩
    rw [any_tie]
    show if f o = true then _ else _
    cases c : f o with
    | true =>
      rw [c, if_pos rfl] at tk
      refine iteT ⟨_, h12 o, _, by rw [upd_ne Dt]; exact eD, ?_, ?_, ?_⟩
      · rw [List.length_map]
        refine small1000 (Nat.le_trans (List.length_filter_le _ _) ?_)
        rw [List.length_take]
        have := ok.2.1
        omega
      · exact fun b u hb => by
          rw [upd_ne (ne_of_none hb hD)]
          exact s2 b u hb
      · rw [upd_same, tk, List.map_append]
        rfl
    | false =>
      rw [c, if_neg Bool.false_ne_true, List.append_nil] at tk
      refine iteF ⟨s2, ?_⟩
      rw [upd_ne Dt, tk]
      exact eD
  · rintro G1 ⟨s1, eD⟩
    rw [List.length_map, List.take_length] at eD
    exact k D G1 s1 hD eD
/-- [pair[::-1] for pair in roads] -/
theorem lc_back {K : PySem.W.Frag} {G : Hp} {sg : L2.St} {q : Addr} {L : List Tie} {Z : VK} (hq : TiesAt K G q L) (few : L.length ≤ 64) (h3 : sg[3]? = some (some (.ref q)))
    (h11 : ∀ v : V, ((wipe sg [11]).set 11 (some v))[11]? = some (some v))
    (k : ∀ D G' L', Same G G' → G D = none → G' D = some (.lst (refs L')) → (∀ e ∈ L', TieOk G' e) → L'.map (·.2) = (L.map (·.2)).map (fun e => (e.2, e.1)) → Z (.ref D) G') :
    tLc (iTup K (tVar 3)) (gName 11) tYes (tBack K (tVar 11)) [11] sg G Z := by
  refine ⟨_, h3, q, rfl, ⟨_, hq.tup⟩, fun D hD => ?_⟩
  refine lc_tup (K := K) (a := q) (xs := refs L) (fun i G' => ∃ L', Same G G' ∧ G' D = some (.lst (refs L')) ∧ (∀ e ∈ L', TieOk G' e) ∧ L'.map (·.2) = ((L.take i).map (·.2)).map (fun e => (e.2, e.1)))
    ⟨[], (Same.refl G).new hD, upd_same, fun _ m => (List.not_mem_nil m).elim, rfl⟩ (fun i G' _ ⟨_, s, _⟩ => Evl.ex_t s hq.tup) ?_ ?_
  · rintro i y G1 hi ⟨L', s1, eD, ties, eq_⟩
    obtain ⟨e, he, rfl⟩ : ∃ e, L[i]? = some e ∧ y = V.ref e.1 := by
      unfold refs at hi
      rw [List.getElem?_map] at hi
      cases c : L[i]? with
      | none =>
        rw [c] at hi
        cases hi
      | some o =>
        rw [c] at hi
        exact ⟨o, rfl, (Option.some.inj hi).symm⟩
    have me := List.mem_of_getElem? he
    have len : L'.length ≤ 64 := by
      have q := congrArg List.length eq_
      simp only [List.length_map, List.length_take] at q
      omega
    refine ⟨by simp [wipe], _, h11 _, e.1, _, rfl, Evl.ex_t s1 (hq.each e me), fun t ht => ⟨_, by rw [upd_ne (ne_of_none eD ht)]; exact eD, ?_, ?_⟩⟩
    · unfold refs
      rw [List.length_map]
      exact small1000 (by omega)
    · have Dt : D ≠ t := ne_of_none eD ht
      refine ⟨L' ++ [(t, e.2.2, e.2.1)], fun b u hb => ?_, ?_, fun x hx => ?_, ?_⟩
      · rw [upd_ne (ne_of_none hb hD), upd_ne (ne_of_none (s1 b u hb) ht)]
        exact s1 b u hb
      · rw [upd_same]
        unfold refs
        rw [List.map_append]
        rfl
      · rcases List.mem_append.mp hx with hx | hx
        · have q := ties x hx
          show upd (upd G1 t _) D _ x.1 = _
          rw [upd_ne (ne_of q eD nofun), upd_ne (ne_of_none q ht)]
          exact q
        · obtain rfl := List.mem_singleton.mp hx
          show upd (upd G1 t _) D _ t = _
          rw [upd_ne Dt.symm, upd_same]
          rfl
      · rw [List.map_append, eq_, List.take_succ, he, List.map_append, List.map_append]
        rfl
  · rintro G1 ⟨L', s1, eD, ties, eq_⟩
    have full : (refs L).length = L.length := List.length_map _
    rw [full, List.take_length] at eq_
    exact k D G1 L' s1 hD eD ties eq_
/-- names of one kind, a tuple of them -/
theorem dp_strs {K : PySem.W.Frag} {G : Hp} : ∀ (xs : List Str), DpAll K G (xs.map V.str) (xs.map PyData.str)
  | [] => .nil
  | x :: r => .cons (.str x) (dp_strs r)
theorem fine_names {xs ys : List Str} (ok : Valid xs) (sub : ∀ y ∈ ys, y ∈ xs) (few : ys.length ≤ 8) : Fine (.tuple (ys.map PyData.str)) 1 72 :=
  (FineAll.of (a := 0) (u := 8) (n := 8) (fun d hd => by
    obtain ⟨y, hy, rfl⟩ := List.mem_map.mp hd
    have nm := ok.2.2.2 y (sub y hy)
    exact Fine.str (name_lay nm) (name_small nm)) (by rw [List.length_map]; exact few)).tup
theorem pushed_sub {xs : List Str} {L : List Tie} {z : Str} : ∀ y ∈ pushed xs L z, y ∈ xs := fun y hy => (List.mem_filter.mp hy).1
theorem pushed_few {xs : List Str} {L : List Tie} {z : Str} (ok : Valid xs) : (pushed xs L z).length ≤ 8 := Nat.le_trans (List.length_filter_le _ _) ok.2.1
structure TL (mg : Str → Option Value) : Prop where
  b : TB mg
  rep : mg "repr" = none
  all : mg "all" = none
  max : mg "max" = none
  min : mg "min" = none
def spRight : Sp := fun vs G Z _ => ∃ j, vs = [.ref j] ∧ Jug G j ∧ ∀ G', Jug G' j → Grow j G G' → Z (.bl true) G'
theorem Jug.same {G G' : Hp} {j : Addr} (h : Jug G j) (s : Same G G') : Jug G' j := by
  obtain ⟨a, b, c, e, r⟩ := h
  exact ⟨a, b, c, s _ _ e, r⟩
end Fs

namespace Fs
open PySem PySem.Spec PyProof.Rows L2 LamX NdefX
/-! ### parts, right or not -/
def badAt (ys : List V) (i : Nat) : Bool := decide (i = 8) || (!nameV (ys.getD i .non) || inV (ys.getD i .non) (ys.take i))
def firstBad (ys : List V) : Option Nat := (List.range ys.length).find? (badAt ys)
def partsDue (ys : List V) : Option V := if ys = [] then some .non else (firstBad ys).map fun i => .int (i : Nat)
/-- a value, and the index with which it is refused as parts -/
inductive PartsCase (K : PySem.W.Frag) (G : Hp) (v : V) (o : Option V) : Prop where
  | other (t : Value) (ty : TyX K G v t) (k : PySem.W.kitOne K t (.type "tuple") = some false) (e : o = some .non)
  | tup (a : Addr) (ys : List V) (ev : v = .ref a) (h : SqT K G a ys) (each : ∀ y ∈ ys, StrOr K G y) (few : ys.length ≤ 100) (e : o = partsDue ys)
theorem StrOr.ext {K : PySem.W.Frag} {G G' : Hp} {v : V} (h : StrOr K G v) (e : ExtN G G') : StrOr K G' v := by
  rcases h with h | ⟨n, t, ty, k⟩
  · exact .inl h
  · exact .inr ⟨n, t, ext_ty e ty, k⟩
theorem PartsCase.ext {K : PySem.W.Frag} {G G' : Hp} {v : V} {o : Option V} (h : PartsCase K G v o) (e : ExtN G G') : PartsCase K G' v o := by
  cases h with
  | other t ty k q => exact .other t (ext_ty e ty) k q
  | tup a ys ev h each few q => exact .tup a ys ev (ext_seqT e h) (fun y hy => (each y hy).ext e) few q
theorem firstBad_some {ys : List V} {i : Nat} (h : firstBad ys = some i) : i < ys.length ∧ badAt ys i = true := by
  unfold firstBad at h
  exact ⟨List.mem_range.mp (List.mem_of_find?_eq_some h), List.find?_some h⟩
theorem firstBad_none {ys : List V} (h : firstBad ys = none) : ∀ i < ys.length, badAt ys i = false := fun i hi => by
  have q := (List.find?_eq_none.mp h) i (List.mem_range.mpr hi)
  simpa using q
theorem firstBad_at {ys : List V} {i : Nat} (hi : i < ys.length) (before : ∀ j < i, badAt ys j = false) (b : badAt ys i = true) : firstBad ys = some i := by
  cases c : firstBad ys with
  | none =>
    have := firstBad_none c i hi
    rw [b] at this
    cases this
  | some k =>
    obtain ⟨h1, h2⟩ := firstBad_some c
    have ge : ¬ k < i := fun lt => by
      rw [before k lt] at h2
      cases h2
    have le : ¬ i < k := fun lt => by
      have all := List.find?_eq_some_iff_append.mp c
      obtain ⟨_, as, bs, e, hb⟩ := all
      have mem : i ∈ as := by
        have hk : (List.range ys.length)[i]? = some i := by simp [hi]
        have kk : as.length = k := by
          have q : (List.range ys.length)[as.length]? = some k := by rw [e]; simp
          have l2 : as.length < ys.length := by
            have := congrArg List.length e
            simp at this
            omega
          simp [l2] at q
          exact q
        rw [e, List.getElem?_append_left (by omega)] at hk
        exact List.mem_of_getElem? hk
      have := hb i mem
      rw [b] at this
      cases this
    rw [show k = i by omega]
theorem getD_at {ys : List V} {i : Nat} {y : V} (h : ys[i]? = some y) : ys.getD i .non = y := by
  rw [List.getD_eq_getElem?_getD, h]
  rfl
theorem names_of {ys : List V} {n : Nat} (le : n ≤ ys.length) (h : ∀ i < n, nameV (ys.getD i .non) = true) : ∃ xs : List Str, ys.take n = xs.map V.str ∧ ∀ x ∈ xs, nameL x.cps.toList = true := by
  induction n with
  | zero => exact ⟨[], rfl, fun _ m => (List.not_mem_nil m).elim⟩
  | succ n ih =>
    obtain ⟨xs, e, nm⟩ := ih (by omega) fun i hi => h i (by omega)
    have q := h n (Nat.lt_succ_self n)
    have at_ : ys[n]? = some ys[n] := List.getElem?_eq_getElem (by omega)
    rw [getD_at at_] at q
    cases c : ys[n] with
    | str z =>
      rw [c] at q at_
      refine ⟨xs ++ [z], ?_, fun x hx => ?_⟩
      · rw [List.take_succ, at_, e, List.map_append]
        rfl
      · rcases List.mem_append.mp hx with hx | hx
        · exact nm x hx
        · rw [List.mem_singleton.mp hx]
          exact q
    | _ =>
      rw [c] at q
      cases q
theorem badAt_false {ys : List V} {i : Nat} (h : badAt ys i = false) : i ≠ 8 ∧ nameV (ys.getD i .non) = true ∧ inV (ys.getD i .non) (ys.take i) = false := by
  unfold badAt at h
  rw [Bool.or_eq_false_iff, Bool.or_eq_false_iff] at h
  exact ⟨of_decide_eq_false h.1, by simpa using h.2.1, h.2.2⟩
/-- what is not refused is right parts -/
theorem due_none {ys : List V} (h : partsDue ys = none) : ∃ xs : List Str, ys = xs.map V.str ∧ Valid xs := by
  unfold partsDue at h
  split at h
  · cases h
  · next ne =>
    have h' : firstBad ys = none := by
      cases c : firstBad ys with
      | none => rfl
      | some i =>
        rw [c] at h
        cases h
    have all := firstBad_none h'
    obtain ⟨xs, e, nm⟩ := names_of (Nat.le_refl ys.length) fun i hi => (badAt_false (all i hi)).2.1
    rw [List.take_length] at e
    refine ⟨xs, e, fun z => ne (by rw [e, z]; rfl), ?_, ?_, nm⟩
    · have len : ys.length = xs.length := by rw [e, List.length_map]
      cases Nat.lt_or_ge 8 xs.length with
      | inl lt => exact absurd rfl (badAt_false (all 8 (by omega))).1
      | inr le => exact le
    · refine List.pairwise_iff_getElem.mpr fun i j hi hj lt same => ?_
      have b := (badAt_false (all j (by rw [e, List.length_map]; exact hj))).2.2
      have aj : xs[j]? = some xs[j] := List.getElem?_eq_getElem hj
      have yj : ys[j]? = some (.str xs[j]) := by rw [e, List.getElem?_map, aj]; rfl
      rw [getD_at yj, e, ← List.map_take, inV_str] at b
      refine of_decide_eq_false b (List.mem_of_getElem? (i := i) ?_)
      rw [List.getElem?_take_of_lt lt, List.getElem?_eq_getElem hi, same]
/-- the class of an error, and its __init__ -/
structure ErrC (K : PySem.W.Frag) (mg : Str → Option Value) (x : Str) (n : Str) (C fI : Addr) : Prop where
  ox : OexC K C
  iA : PySem.W.findIn K (.ref C) "__init__" = some (some (.ref fI))
  iT : PySem.W.typeIn K (.ref fI) = some (.type "function")
  mg : mg x = some (.ref C)
  no : PySem.W.findIn K (.ref C) n = some none
def spPartsX (K : PySem.W.Frag) (CP : Addr) : Sp := fun vs G Z E => ∃ v o, vs = [v] ∧ PartsCase K G v o ∧ (o = none → ∀ G', Same G G' → Z .non G') ∧ (∀ x, o = some x → ∀ d G', Same G G' → G' d = some (.xd [("index", x)]) → E (.ref CP) (some d) G')
section
variable {P : Program} {w : World} {K : PySem.W.Frag} {mg : Str → Option Value} {base : Heap}
theorem ok_partsX {f fN CP fI : Addr} {fd fdN fdI : FuncData} (F : Fun K "_check_parts" "_check_parts" sParts f fd) (T : TC mg) (DN : DefAt K mg "is_name" ["value"] sName fN fdN)
    (EC : ErrC K mg "InvalidParts" "index" CP fI) (GI : FnOk P w K mg base CX0 1 fI fdI ["self", "index"] (spErr CP "index")) (bI : Binds K fdI ["self", "index"] []) :
    FnOk P w K mg base (L2N.CX P w) 3 f fd ["parts"] (spPartsX K CP) := by
  have GN : FnOk P w K mg base CX0 1 fN fdN ["value"] (spName K) := ok_name DN.fn T.n
  obtain ⟨t1, e1⟩ := T.most
  refine okX F scParts (fun vs G Z E h => ?_) (fun cdv A out st G vs Z E hr h => ?_)
  · obtain ⟨v, o, rfl, _⟩ := h
    rfl
  · obtain ⟨v, o, rfl, pc, right, wrong⟩ := h
    have raise : ∀ {e : Expr} {te : TE} {p1 p2 p3 : Pos}, PE (cxOf (L2N.CX P w) P w K mg base ["parts", "at", "part"] "_check_parts" (defScope sParts) f cdv A out st G E) e te →
        starEach [e] (cxOf (L2N.CX P w) P w K mg base ["parts", "at", "part"] "_check_parts" (defScope sParts) f cdv A out st G E).env = (false, eval e (cxOf (L2N.CX P w) P w K mg base ["parts", "at", "part"] "_check_parts" (defScope sParts) f cdv A out st G E).env) :: starEach [] (cxOf (L2N.CX P w) P w K mg base ["parts", "at", "part"] "_check_parts" (defScope sParts) f cdv A out st G E).env →
        PS (cxOf (L2N.CX P w) P w K mg base ["parts", "at", "part"] "_check_parts" (defScope sParts) f cdv A out st G E) (.Raise (some (.Call (.Name "InvalidParts" p1) [e] [] p2)) none p3)
          (fun _ sg H => tMkO CP (spErr CP "index") [] (tCons te tNil) sg H fun cls d H' => E cls d H') := fun he hst =>
      L2N.ps_raise rfl takes_cx (pmk_oexN EC.ox EC.iA EC.iT GI hr bI .nil pass0 (by rfl) EC.mg (pa_cons he pa_nil hst) (he := hst))
    refine ⟨_, pss_cons (ps_if (PW.pt (pw_or (pt_not (pt_val (pe_callB call_isi (by rfl) T.n.isi boot_isinstance (pa_cons (pv 0) (pa_cons (pe_bltn (v := .ty "tuple") (by rfl) T.tup boot_tuple rfl) pa_nil)))))
          (pw_or1 (pt_cmpR op_eq (pe_callB call_len_seq (by rfl) T.n.len PySem.boot_len (pa_cons (pv 0) pa_nil)) pe_int (nomark _))))) (pss_one (raise pe_non rfl)) pss_nil)
      (pss_one (ps_for (passes_of rfl) rfl (pi_enumT (by rfl) T.enm (pa_cons (pv 0) pa_nil)) (pg_tup rfl (pgs_cons (pg_name (i := 1) scParts.nd rfl (Or.inl rfl)) (pgs_cons (pg_name (i := 2) scParts.nd rfl (Or.inl rfl)) pgs_nil)))
        (pss_one (ps_if (PW.pt (pw_or (pt_cmpR op_eq (pv 1) (pe_glob (v := .int 8) rfl e1 ⟨_, rfl⟩) (nomark _)) (pw_or (pt_not (pt_val (pe_call GN (hr.mono (by decide)) rfl DN.gl DN.kp DN.bd .nil pass0 (pa_cons (pv 2) pa_nil))))
          (pw_or1 (pt_cmpR op_in_seq (pv 2) (pe_slice sl_tupA (pv 0) po_none (po_some (pv 1))) rfl))))) (pss_one (raise (pv 1) rfl)) pss_nil)))), ?_⟩
    have err : ∀ {x : V} {H : Hp}, o = some x → Same G H → [x].length ≤ 1000 ∧ ∀ a, H a = none → spErr CP "index" (.ref a :: ([x] ++ [])) (upd H a (exo a CP none)) (fun u H2 => u = .non ∧ ∃ (d : Addr) (fs : List (Str × V)), H2 a = some (exo a CP (some d)) ∧ H2 d = some (exd d fs) ∧ H d = none ∧
        (fun cls d H' => E cls d H') (.ref CP) (some d) (upd (del H2 a) d (.xd fs))) (fun _ _ _ => False) := fun {x H} eo s => err_made (Q := fun cls d H' => E cls d H') fun d G' s' ed => wrong x eo d G' (s.trans s') ed
    cases pc with
    | other t ty k eo =>
      exact ⟨_, rfl, _, _, _, _, false, rfl, .ty _, ty, k, _, rfl, iteT (err eo (Same.refl G))⟩
    | tup p ys ev hp each few eo =>
      subst ev
      refine ⟨_, rfl, _, _, _, _, true, rfl, .ty _, tyT hp, kit_ty (by decide +kernel), _, rfl, iteF ⟨_, rfl, p, _, rfl, .inr hp, rfl, _, rfl, ?_⟩⟩
      by_cases z0 : ys = []
      · subst z0
        exact iteT (err (by rw [eo]; rfl) (Same.refl G))
      have ne : ¬ (V.int (ys.length : Int) = V.int 0) := fun q => by
        have q' : (ys.length : Int) = 0 := V.int.inj q
        exact z0 (List.length_eq_zero_iff.mp (by omega))
      rw [decide_eq_false ne]
      refine iteF ⟨_, rfl, p, _, rfl, hp, for_it walk_enumT (fun i σ G' => ∃ v1 v2, σ = [some (.ref p), v1, v2] ∧ Same G G' ∧ ∀ j < i, badAt ys j = false) ⟨_, _, rfl, Same.refl G, fun j hj => absurd hj (Nat.not_lt_zero j)⟩ (fun i σ G' _ ⟨_, _, _, s, _⟩ => Evl.ex_t s hp) ?_ ?_⟩
      · rintro i x σ G1 G2 hi ⟨v1, v2, rfl, s1, before⟩ ⟨r, y1, y2, rfl, hr1, rfl, e2, e3⟩
        obtain rfl : y1 = V.int (i : Nat) := (Option.some.inj e2).symm
        have at_ : ys[i]? = some ys[i] := List.getElem?_eq_getElem hi
        obtain rfl : y2 = ys[i] := by
          have e4 : ys[i]? = some y2 := e3
          rw [at_] at e4
          exact (Option.some.inj e4).symm
        have s2 : Same G (upd G1 r (.tup [.int (i : Nat), ys[i]])) := s1.new hr1
        have so := (each _ (List.getElem_mem hi)).ext (ExtN.of s2)
        have due : badAt ys i = true → o = some (.int (i : Nat)) := fun b => by
          rw [eo]
          unfold partsDue
          rw [if_neg z0, firstBad_at hi before b]
          rfl
        refine ⟨r, _, rfl, SqT.of upd_same, rfl, _, _, rfl, _, _, rfl, rfl, _, rfl, rfl, _, rfl, ?_⟩
        by_cases n8 : i = 8
        · rw [decide_eq_true (show V.int ((i : Nat) : Int) = V.int 8 by rw [n8]; rfl)]
          exact iteT ⟨_, rfl, err (due (by unfold badAt; rw [decide_eq_true n8]; rfl)) s2⟩
        rw [decide_eq_false (show ¬ V.int ((i : Nat) : Int) = V.int 8 from fun q => by
          have q' : ((i : Nat) : Int) = 8 := V.int.inj q
          omega)]
        refine iteF ⟨_, rfl, _, rfl, so, fun G3 s3 => ⟨_, rfl, ?_⟩⟩
        cases nm : nameV ys[i] with
        | false => exact iteT ⟨_, rfl, err (due (by unfold badAt; rw [getD_at at_, nm]; simp)) (s2.trans s3)⟩
        | true =>
          refine iteF ⟨_, rfl, _, rfl, _, rfl, _, rfl, ?_⟩
          have hp3 := Evl.ex_t (s2.trans s3) hp
          obtain ⟨xs, ex, _⟩ := names_of (n := i) (by omega) fun j hj => (badAt_false (before j hj)).2.1
          have fl : flatV ys[i] = true := by
            cases c : ys[i] with
            | str z => rfl
            | _ =>
              rw [c] at nm
              cases nm
          refine sl_take (i := i) hp3 (by omega) fun q G4 s4 hq => ⟨q, _, rfl, .inr hq, fl, by rw [ex]; exact flat_strs xs, _, rfl, ?_⟩
          have s24 := (s2.trans s3).trans s4
          cases c : inV ys[i] (ys.take i) with
          | true => exact iteT ⟨_, rfl, err (due (by unfold badAt; rw [getD_at at_, c]; simp)) s24⟩
          | false =>
            refine iteF ⟨_, _, rfl, s24, fun j hj => ?_⟩
            rcases Nat.lt_or_ge j i with lt | ge
            · exact before j lt
            · obtain rfl : j = i := by omega
              unfold badAt
              rw [getD_at at_, nm, c, decide_eq_false n8]
              rfl
      · rintro σ G1 ⟨v1, v2, rfl, s1, before⟩
        refine right ?_ _ s1
        rw [eo]
        unfold partsDue
        rw [if_neg z0]
        cases c : firstBad ys with
        | none => rfl
        | some i =>
          obtain ⟨h1, h2⟩ := firstBad_some c
          rw [before i h1] at h2
          cases h2
end
end Fs

namespace Fs
open PySem PySem.Spec PyProof.Rows L2 _root_.TL
/-! ### pages -/
theorem sign_low {z : Str} (h : nameL z.cps.toList = true) : ∀ c ∈ z.cps.toList, 48 ≤ c := by
  intro c hc
  cases e : z.cps.toList with
  | nil =>
    rw [e] at hc
    exact (List.not_mem_nil hc).elim
  | cons d r =>
    rw [e] at h hc
    have h' : (decide (r.length < 8) && (decide (d ∈ letterS.cps.toList) && (d :: r).all fun x => decide (x ∈ signS.cps.toList))) = true := h
    have h2 := (Bool.and_eq_true_iff.mp (Bool.and_eq_true_iff.mp h').2).2
    have h3 : c ∈ signS.cps.toList := of_decide_eq_true (List.all_eq_true.mp h2 c hc)
    have all : signS.cps.toList.all (fun x => decide (48 ≤ x)) = true := by decide +kernel
    exact of_decide_eq_true (List.all_eq_true.mp all c h3)
theorem name_no {z : Str} (h : nameL z.cps.toList = true) {c : Nat} (hc : c < 48) : c ∉ tl z := fun m => by
  have := sign_low h c m
  omega
theorem tl_nl : tl nlS = [10] := by decide +kernel
theorem tl_sp : tl spS = [32] := by decide +kernel
theorem tl_to : tl toS = 32 :: [62, 32] := by decide +kernel
theorem plain_nl : nlS.cps.all (· < 256) = true := by decide +kernel
theorem plain_sp : spS.cps.all (· < 256) = true := by decide +kernel
theorem plain_to : toS.cps.all (· < 256) = true := by decide +kernel
def Right (xs : List Str) (ts : List (Str × Str)) : Prop := ∀ e ∈ ts, e.1 ∈ xs ∧ e.2 ∈ xs
theorem Roads.right {xs : List Str} {L : List Tie} (h : Roads xs L) : Right xs (L.map (·.2)) := fun e he => by
  obtain ⟨t, ht, rfl⟩ := List.mem_map.mp he
  exact ⟨(h.2 t ht).1, (h.2 t ht).2.1⟩
theorem join_free {y : Str} {c : Nat} (hy : c ∉ tl y) : ∀ {l : List Str}, (∀ z ∈ l, c ∉ tl z) → c ∉ tl (Txt.join y l)
  | [], _ => by
    rw [join_eq]
    exact List.not_mem_nil
  | [a], h => by
    rw [join_eq]
    exact h a List.mem_cons_self
  | a :: b :: r, h => by
    have ih := join_free (y := y) hy (l := b :: r) fun z hz => h z (List.mem_cons_of_mem _ hz)
    rw [join_eq] at ih ⊢
    show c ∉ tl (a ++ y ++ Str.join y (b :: r))
    rw [tl_append, tl_append]
    intro m
    rcases List.mem_append.mp m with m | m
    · rcases List.mem_append.mp m with m | m
      · exact h a List.mem_cons_self m
      · exact hy m
    · exact ih m
theorem split_heads {xs : List Str} (ok : Valid xs) : Txt.split (Txt.join spS xs) spS = xs :=
  split_join tl_sp plain_sp ok.1 fun p hp => name_no (ok.2.2.2 p hp) (by decide)
theorem split_line {xs : List Str} (ok : Valid xs) {e : Str × Str} (h : e.1 ∈ xs ∧ e.2 ∈ xs) : Txt.split (lineT e) toS = [e.1, e.2] := by
  refine split_join tl_to plain_to (by simp) fun p hp => ?_
  rcases List.mem_cons.mp hp with rfl | hp
  · exact name_no (ok.2.2.2 _ h.1) (by decide)
  · obtain rfl := List.mem_singleton.mp hp
    exact name_no (ok.2.2.2 _ h.2) (by decide)
theorem split_page {xs : List Str} {ts : List (Str × Str)} (ok : Valid xs) (h : Right xs ts) : Txt.split (pageT xs ts) nlS = pageL xs ts := by
  refine split_join tl_nl plain_nl (by simp [pageL]) fun p hp => ?_
  rcases List.mem_cons.mp hp with rfl | hp
  · exact join_free (by rw [tl_sp]; decide) fun z hz => name_no (ok.2.2.2 z hz) (by decide)
  · obtain ⟨e, he, rfl⟩ := List.mem_map.mp hp
    refine join_free (by rw [tl_to]; decide) fun z hz => ?_
    rcases List.mem_cons.mp hz with rfl | hz
    · exact name_no (ok.2.2.2 _ (h e he).1) (by decide)
    · obtain rfl := List.mem_singleton.mp hz
      exact name_no (ok.2.2.2 _ (h e he).2) (by decide)
theorem lines_inj {xs ys : List Str} (ok : Valid xs) (ok2 : Valid ys) : ∀ {ts us : List (Str × Str)}, Right xs ts → Right ys us → ts.map lineT = us.map lineT → ts = us
  | [], [], _, _, _ => rfl
  | [], _ :: _, _, _, q => by cases q
  | _ :: _, [], _, _, q => by cases q
  | e :: r, d :: t, h, k, q => by
    have q' : lineT e = lineT d ∧ r.map lineT = t.map lineT := List.cons.inj q
    have h1 := split_line ok (h e List.mem_cons_self)
    have h2 := split_line ok2 (k d List.mem_cons_self)
    rw [q'.1, h2] at h1
    have e1 : d.1 = e.1 := (List.cons.inj h1).1
    have e2 : d.2 = e.2 := (List.cons.inj (List.cons.inj h1).2).1
    have ed : e = d := Prod.ext e1.symm e2.symm
    rw [ed, lines_inj ok ok2 (fun x hx => h x (List.mem_cons_of_mem _ hx)) (fun x hx => k x (List.mem_cons_of_mem _ hx)) q'.2]
theorem page_inj {xs ys : List Str} {ts us : List (Str × Str)} (ok : Valid xs) (ok2 : Valid ys) (h : Right xs ts) (k : Right ys us) : pageT xs ts = pageT ys us ↔ xs = ys ∧ ts = us := by
  constructor
  · intro q
    have h1 := split_page ok h
    rw [q, split_page ok2 k] at h1
    have h2 : Txt.join spS ys = Txt.join spS xs ∧ us.map lineT = ts.map lineT := List.cons.inj h1
    have h3 := split_heads ok
    rw [← h2.1, split_heads ok2] at h3
    exact ⟨h3.symm, (lines_inj ok2 ok k h h2.2).symm⟩
  · rintro ⟨rfl, rfl⟩
    rfl
/-! ### how long they are -/
theorem sum_le {l : List Nat} {m : Nat} (h : ∀ x ∈ l, x ≤ m) : l.sum ≤ l.length * m := by
  induction l with
  | nil => exact Nat.zero_le _
  | cons a r ih =>
    have h1 := h a List.mem_cons_self
    have h2 := ih fun x hx => h x (List.mem_cons_of_mem _ hx)
    rw [List.sum_cons, List.length_cons, Nat.succ_mul]
    omega
theorem join_le {y : Str} {l : List Str} {m : Nat} (h : ∀ x ∈ l, x.length ≤ m) : (Txt.join y l).length ≤ l.length * (m + y.length) := by
  have h1 := StrLaws.join_length_le y l
  have h2 := sum_le (l := l.map (·.length)) (m := m) fun x hx => by
    obtain ⟨z, hz, rfl⟩ := List.mem_map.mp hx
    exact h z hz
  rw [List.length_map] at h2
  rw [join_eq, Nat.mul_add]
  omega
theorem few_roads {xs : List Str} {L : List Tie} (ok : Valid xs) (h : Roads xs L) : L.length ≤ 64 := by
  have q := count_pairs ok.2.2.1 h.1 fun e he => by
    obtain ⟨u, hu, rfl⟩ := List.mem_map.mp he
    exact ⟨(h.2 u hu).1, (h.2 u hu).2.1⟩
  have s := sum_le (l := xs.map fun o => (pushed xs L o).length) (m := 8) fun x hx => by
    obtain ⟨o, _, rfl⟩ := List.mem_map.mp hx
    exact pushed_few ok
  rw [List.length_map] at s q
  have q2 : (xs.map fun o => (pushed xs L o).length).sum = L.length := q
  have := ok.2.1
  omega
theorem heads_len {xs : List Str} (ok : Valid xs) : (Txt.join spS xs).length ≤ 72 := by
  have h := join_le (y := spS) (l := xs) (m := 8) fun x hx => name_small (ok.2.2.2 x hx)
  have e : spS.length = 1 := by decide +kernel
  rw [e] at h
  have := ok.2.1
  omega
theorem line_len {xs : List Str} (ok : Valid xs) {e : Str × Str} (h : e.1 ∈ xs ∧ e.2 ∈ xs) : (lineT e).length ≤ 22 := by
  have k := join_le (y := toS) (l := [e.1, e.2]) (m := 8) fun x hx => by
    rcases List.mem_cons.mp hx with rfl | hx
    · exact name_small (ok.2.2.2 _ h.1)
    · obtain rfl := List.mem_singleton.mp hx
      exact name_small (ok.2.2.2 _ h.2)
  have e3 : toS.length = 3 := by decide +kernel
  rw [e3] at k
  exact k
theorem lines_le {xs : List Str} {ts : List (Str × Str)} (ok : Valid xs) (h : Right xs ts) : ∀ z ∈ pageL xs ts, z.length ≤ 72 := fun z hz => by
  rcases List.mem_cons.mp hz with rfl | hz
  · exact heads_len ok
  · obtain ⟨e, he, rfl⟩ := List.mem_map.mp hz
    exact Nat.le_trans (line_len ok (h e he)) (by decide)
theorem page_len {xs : List Str} {ts : List (Str × Str)} (ok : Valid xs) (h : Right xs ts) (few : ts.length ≤ 64) : (pageT xs ts).length ≤ 4745 := by
  have k := join_le (y := nlS) (lines_le ok h)
  have e : nlS.length = 1 := by decide +kernel
  have l : (pageL xs ts).length = ts.length + 1 := by simp [pageL]
  rw [e, l] at k
  exact Nat.le_trans k (by omega)
theorem page_fits {xs : List Str} {ts : List (Str × Str)} (ok : Valid xs) (h : Right xs ts) (few : ts.length ≤ 64) : ((pageL xs ts).map (·.length)).sum + (pageL xs ts).length * nlS.length ≤ 16777216 := by
  have s := sum_le (l := (pageL xs ts).map (·.length)) (m := 72) fun x hx => by
    obtain ⟨z, hz, rfl⟩ := List.mem_map.mp hx
    exact lines_le ok h z hz
  rw [List.length_map] at s
  have l : (pageL xs ts).length = ts.length + 1 := by simp [pageL]
  have e : nlS.length = 1 := by decide +kernel
  rw [l] at s ⊢
  rw [e]
  omega
theorem heads_fits {xs : List Str} (ok : Valid xs) : (xs.map (·.length)).sum + xs.length * spS.length ≤ 16777216 := by
  have s := sum_le (l := xs.map (·.length)) (m := 8) fun x hx => by
    obtain ⟨z, hz, rfl⟩ := List.mem_map.mp hx
    exact name_small (ok.2.2.2 z hz)
  rw [List.length_map] at s
  have e : spS.length = 1 := by decide +kernel
  have := ok.2.1
  rw [e]
  omega
end Fs

namespace Fs
open PySem PySem.Spec PyProof.Rows L2 _root_.TL
abbrev sStr : Stmt := (inClass (top 27) 6)
abbrev sEq : Stmt := (inClass (top 27) 7)
theorem line_eq (a b : Str) : Str.empty ++ a ++ toS ++ b = lineT (a, b) := by
  unfold lineT
  rw [join_eq]
  refine ext_tl ?_
  show _ = tl (a ++ toS ++ b)
  rw [tl_append, tl_append, tl_append, tl_append, tl_append]
  rfl
theorem line_eq2 (a b : Str) : a ++ toS ++ b = lineT (a, b) := by
  unfold lineT
  rw [join_eq]
  rfl
/-- what isinstance asks of the class -/
structure TI (K : PySem.W.Frag) (C : Addr) : Prop where
  ha : PySem.W.findIn K (.ref C) "__class__" = some (some (.builtin "object.__class__"))
  hn : PySem.W.specialIn K (.builtin "object.__class__") "__get__" = some (some (.builtin "getset_descriptor.__get__"))
  htk : PySem.W.takesIn K (.builtin "object.__class__") = some true
  hm : PySem.W.mroIn K C (.type "object") = some true
  one : PySem.W.kitOne K (.ref C) (.ref C) = some true
theorem TI.ty {K : PySem.W.Frag} {mg : Str → Option Value} {C : Addr} (I : TI K C) (T : TW K mg C) {G : Hp} {x dx : Addr} {fs : List (Str × V)} (h : G x = some (.ins C dx fs)) : TyX K G (.ref x) (.ref C) :=
  .base (.ins h T.cl I.ha I.hn I.htk I.hm)
def spStr (K : PySem.W.Frag) (C : Addr) : Sp := fun vs G Z _ => ∃ x p q xs L, vs = [.ref x] ∧ WorksAt K C G x p q xs L ∧ ∀ G', Same G G' → Z (.str (pageT xs (L.map (·.2)))) G'
/-- x == y, x works: y works, or of another class -/
def spEq (K : PySem.W.Frag) (C : Addr) : Sp := fun vs G Z _ => ∃ x p q xs L v, vs = [.ref x, v] ∧ WorksAt K C G x p q xs L ∧
  ((∃ t, TyX K G v t ∧ PySem.W.kitOne K t (.ref C) = some false ∧ Z (.bl false) G) ∨
    ∃ y r s ys M, v = .ref y ∧ WorksAt K C G y r s ys M ∧ Z (.bl (decide (xs = ys ∧ L.map (·.2) = M.map (·.2)))) G)
theorem eqvAll_strs : ∀ (xs ys : List Str), PyData.eqvAll (xs.map PyData.str) (ys.map PyData.str) = decide (xs = ys)
  | [], [] => by simp [PyData.eqvAll]
  | [], _ :: _ => by simp [PyData.eqvAll]
  | _ :: _, [] => by simp [PyData.eqvAll]
  | x :: r, y :: t => by
    have ih := eqvAll_strs r t
    simp only [List.map_cons, PyData.eqvAll, PyData.eqv, ih]
    by_cases h : x = y
    · simp [h]
    · simp [h]
theorem eqv_heads (xs ys : List Str) : PyData.eqv (.tuple (xs.map PyData.str)) (.tuple (ys.map PyData.str)) = decide (xs = ys) := by
  simp only [PyData.eqv]
  exact eqvAll_strs xs ys
theorem eqvAll_ties : ∀ (xs ys : List (Str × Str)), PyData.eqvAll (xs.map tieD) (ys.map tieD) = decide (xs = ys)
  | [], [] => by simp [PyData.eqvAll]
  | [], _ :: _ => by simp [PyData.eqvAll]
  | _ :: _, [] => by simp [PyData.eqvAll]
  | x :: r, y :: t => by
    have ih := eqvAll_ties r t
    simp only [List.map_cons, PyData.eqvAll, tieD_eqv, ih]
    by_cases h : x = y
    · simp [h]
    · simp [h]
theorem eqv_ties (xs ys : List (Str × Str)) : PyData.eqv (.tuple (xs.map tieD)) (.tuple (ys.map tieD)) = decide (xs = ys) := by
  simp only [PyData.eqv]
  exact eqvAll_ties xs ys
theorem heads_shaped {xs : List Str} (ok : Valid xs) : SeqAt.shaped (.tuple (xs.map PyData.str)) = true := (fine_names ok (fun _ h => h) ok.2.1).shaped (by decide)
section
variable {P : Program} {w : World} {K : PySem.W.Frag} {mg : Str → Option Value} {base : Heap}
def tLine : TE := fun sg G Z => tJs [tFmt (tVar 2), tC (.str toS), tFmt (tVar 3)] Str.empty sg G fun out G1 => Z (.str out) G1
theorem scStr : FnScope ["self", "lines", "one", "other"] ["self"] (defScope sStr) := ⟨rfl, rfl, rfl, by decide +kernel, rfl, by decide +kernel, by decide +kernel⟩
theorem ok_str {f C : Addr} {fd : FuncData} (F : Fun K "__str__" "Works.__str__" sStr f fd) (T : TW K mg C) : FnOk P w K mg base CX0 1 f fd ["self"] (spStr K C) := by
  refine F.ok scStr (fun vs G Z E h => ?_) (fun cdv A out st G vs Z E hr h => ?_)
  · obtain ⟨x, p, q, xs, L, rfl, _⟩ := h
    rfl
  · obtain ⟨x, p, q, xs, L, rfl, wk, fin⟩ := h
    obtain ⟨dx, hx⟩ := wk.ins
    have rt := wk.rds.right
    have few := few_roads wk.ok wk.rds
    refine ⟨_, (pss_cons (ps_setLc (i := 1) (own := [("one", 2), ("other", 3)]) (g := gTup K 2 (gCons (gName 2) (gCons (gName 3) gNil))) (tt := tYes)
          (te := tLine) rfl scStr.nd rfl rfl (sw_true rfl rfl rfl rfl) (pi_tup (pe_fld (pv 0) rfl)) (blkOk_by (N := ["self", "lines", "one", "other"]) (sc := defScope sStr) (by decide +kernel))
          (fun _ _ _ _ _ => pg_tup rfl (pgs_cons (pg_name (i := 2) scStr.nd rfl (Or.inl rfl)) (pgs_cons (pg_name (i := 3) scStr.nd rfl (Or.inl rfl)) pgs_nil))) (fun _ _ _ _ _ => pts_nil)
          (fun _ _ _ _ _ => pe_joined (.cons (pe_fmt (pv 2)) (.cons pe_str (.cons (pe_fmt (pv 3)) .nil)))))
        (pss_one (ps_ret (pe_join pe_str (pe_lst (pa_cons (pe_join pe_str (pe_fld (pv 0) rfl)) (StX.pa_star (pv 1) pa_nil))))))), ?_⟩
    refine ⟨_, rfl, x, C, dx, _, _, rfl, hx, T.cl, T.nT, wf_ties p q, q, rfl, ⟨_, wk.tie.tup⟩, fun D hD => ?_⟩
    refine lc_tup (K := K) (a := q) (xs := refs L) (fun i G' => Same G G' ∧ G' D = some (.lst ((((L.map (·.2)).take i).map lineT).map V.str))) ⟨(Same.refl G).new hD, upd_same⟩ (fun i G' _ s => Evl.ex_t s.1 wk.tie.tup) ?_ ?_
    · rintro i y G1 hi ⟨s1, eD⟩
      obtain ⟨e, he, rfl⟩ : ∃ e, L[i]? = some e ∧ y = V.ref e.1 := by
        unfold refs at hi
        rw [List.getElem?_map] at hi
        cases c : L[i]? with
        | none =>
          rw [c] at hi
          cases hi
        | some o =>
          rw [c] at hi
          exact ⟨o, rfl, (Option.some.inj hi).symm⟩
      have me := List.mem_of_getElem? he
      have n1 : e.2.1.length ≤ 8 := name_small (wk.ok.2.2.2 _ (wk.rds.2 e me).1)
      have n2 : e.2.2.length ≤ 8 := name_small (wk.ok.2.2.2 _ (wk.rds.2 e me).2.1)
      have n3 : toS.length = 3 := by decide +kernel
      have n0 : Str.empty.length = 0 := rfl
      refine ⟨e.1, _, rfl, Evl.ex_t s1 (wk.tie.each e me), rfl, _, _, rfl, _, _, rfl, rfl, rfl, ?_⟩
      refine ⟨_, rfl, .inl ⟨e.2.1, rfl, by rw [sizeLine_eq]; omega, e.2.1, rfl, by rw [Str.length_append, sizeLine_eq]; omega, toS, rfl, by rw [Str.length_append, Str.length_append, sizeLine_eq]; omega, _, rfl,
        .inl ⟨e.2.2, rfl, by rw [sizeLine_eq]; omega, e.2.2, rfl, by rw [Str.length_append, Str.length_append, Str.length_append, sizeLine_eq]; omega, ?_⟩⟩⟩
      rw [line_eq]
      refine ⟨_, eD, ?_, fun b u hb => ?_, ?_⟩
      · rw [List.length_map, List.length_map, List.length_take, List.length_map]
        exact small1000 (by omega)
      · rw [upd_ne (ne_of_none hb hD)]
        exact s1 b u hb
      · rw [upd_same, List.take_succ, List.getElem?_map, he, List.map_append, List.map_append]
        rfl
    · rintro G1 ⟨s1, eD⟩
      have full : (refs L).length = (L.map (·.2)).length := by
        unfold refs
        rw [List.length_map, List.length_map]
      rw [full, List.take_length] at eD
      refine ⟨⟨_, rfl⟩, ⟨_, rfl⟩, _, rfl, x, C, dx, _, _, rfl, s1 _ _ hx, T.cl, T.nP, wf_parts p q, spS, p, xs, rfl, rfl, .inr (Evl.ex_t s1 wk.par), heads_fits wk.ok, _, rfl, D, _, rfl, .inr (SqL.of eD), ?_⟩
      refine ⟨?_, fun l hl => ?_⟩
      · rw [List.append_nil, List.length_cons, List.length_map, List.length_map, List.length_map, sizeLine_eq]
        omega
      · refine ⟨nlS, l, pageL xs (L.map fun e : Tie => e.2), rfl, rfl, .inl (SqL.of ?_), page_fits wk.ok rt (by rw [List.length_map]; exact few), fin _ (s1.new hl)⟩
        rw [upd_same, List.append_nil]
        rfl
theorem scEq : FnScope ["self", "other"] ["self", "other"] (defScope sEq) := ⟨rfl, rfl, rfl, by decide +kernel, rfl, by decide +kernel, by decide +kernel⟩
theorem ok_eq {f C : Addr} {fd : FuncData} (F : Fun K "__eq__" "Works.__eq__" sEq f fd) (T : TW K mg C) (I : TI K C) : FnOk P w K mg base CX0 1 f fd ["self", "other"] (spEq K C) := by
  refine F.ok scEq (fun vs G Z E h => ?_) (fun cdv A out st G vs Z E hr h => ?_)
  · obtain ⟨x, p, q, xs, L, v, rfl, _⟩ := h
    rfl
  · obtain ⟨x, p, q, xs, L, v, rfl, wk, h⟩ := h
    obtain ⟨dx, hx⟩ := wk.ins
    have hu : (cxOf CX0 P w K mg base ["self", "other"] "Works.__eq__" (defScope sEq) f cdv A out st G E).nox.A.units + 64 < cLine := by
      have := hr.un
      show (A.deeper _).units + 64 < cLine
      omega
    refine ⟨_, (pss_one (ps_ret (pe_and (pe_callB call_isi (by rfl) T.c.n.isi boot_isinstance (pa_cons (pv 1) (pa_cons (pe_glob (v := .ref C) rfl T.mgC rfl) pa_nil)))
        (pe_and (pe_cmpR (op_eqD hu) (pe_fld (pv 0) rfl) (pe_fld (pv 1) rfl) (nomark _)) (pe_one (pe_cmpR (op_eqD hu) (pe_fld (pv 0) rfl) (pe_fld (pv 1) rfl) (nomark _))))))), ?_⟩
    rcases h with ⟨t, ty, hk, z⟩ | ⟨y, r, s, ys, M, rfl, wk2, z⟩
    · exact ⟨_, rfl, _, _, _, _, false, rfl, .own C, ty, hk, _, rfl, iteF z⟩
    · obtain ⟨dy, hy⟩ := wk2.ins
      refine ⟨_, rfl, _, _, _, _, true, rfl, .own C, I.ty T hy, I.one, _, rfl, iteT ?_⟩
      refine ⟨_, rfl, x, C, dx, _, _, rfl, hx, T.cl, T.nP, wf_parts p q, _, rfl, y, C, dy, _, _, rfl, hy, T.cl, T.nP, wf_parts r s, _, _, .tup wk.par (dp_strs xs), .tup wk2.par (dp_strs ys), heads_shaped wk.ok, heads_shaped wk2.ok, _, rfl, ?_⟩
      rw [eqv_heads]
      by_cases c : xs = ys
      · rw [decide_eq_true c]
        refine iteT ⟨_, rfl, x, C, dx, _, _, rfl, hx, T.cl, T.nT, wf_ties p q, _, rfl, y, C, dy, _, _, rfl, hy, T.cl, T.nT, wf_ties r s, _, _, wk.tie.dp, wk2.tie.dp, tieDs_shaped (roads_lay wk.ok wk.rds), tieDs_shaped (roads_lay wk2.ok wk2.rds), ?_⟩
        rw [eqv_ties]
        have e : decide (xs = ys ∧ L.map (·.2) = M.map (·.2)) = decide (L.map (·.2) = M.map (·.2)) := by
          rw [decide_eq_decide]
          exact ⟨fun q => q.2, fun q => ⟨c, q⟩⟩
        rw [e] at z
        exact z
      · rw [decide_eq_false c]
        have e : decide (xs = ys ∧ L.map (·.2) = M.map (·.2)) = false := decide_eq_false fun q => c q.1
        rw [e] at z
        exact iteF z
end
end Fs

namespace Fs
open PySem PySem.Spec PyProof.Rows L2 _root_.TL
abbrev sRead : Stmt := (inClass (top 27) 1)
abbrev nRead : List Str := ["cls", "text", "first", "rest", "parts", "ties", "line"]
/-- right pairs of parts -/
def Way (xs : List Str) (ts : List (Str × Str)) : Prop := ts.Nodup ∧ ∀ e ∈ ts, e.1 ∈ xs ∧ e.2 ∈ xs ∧ e.1 ≠ e.2
theorem Way.roads {xs : List Str} {ts : List (Str × Str)} (h : Way xs ts) {L : List Tie} (e : L.map (fun t : Tie => t.2) = ts) : Roads xs L := by
  subst e
  exact ⟨h.1, fun t ht => h.2 t.2 (List.mem_map.mpr ⟨t, ht, rfl⟩)⟩
theorem Roads.way {xs : List Str} {L : List Tie} (h : Roads xs L) : Way xs (L.map fun t : Tie => t.2) := ⟨h.1, fun e he => by
  obtain ⟨t, ht, rfl⟩ := List.mem_map.mp he
  exact h.2 t ht⟩
theorem Way.right {xs : List Str} {ts : List (Str × Str)} (h : Way xs ts) : Right xs ts := fun e he => ⟨(h.2 e he).1, (h.2 e he).2.1⟩
theorem Way.few {xs : List Str} {ts : List (Str × Str)} (ok : Valid xs) (h : Way xs ts) : ts.length ≤ 64 := by
  have e : (ts.map fun e => ((0, e) : Tie)).map (fun t : Tie => t.2) = ts := by
    rw [List.map_map]
    exact List.map_id ts
  have q := few_roads ok (h.roads e)
  rw [List.length_map] at q
  exact q
theorem TiesAt.mk' {K : PySem.W.Frag} {G : Hp} {q : Addr} {L : List Tie} (h : G q = some (.tup (refs L))) (t : ∀ e ∈ L, TieOk G e) : TiesAt K G q L := ⟨SqT.of h, fun e he => SqT.of (t e he)⟩
def spRead (K : PySem.W.Frag) (C : Addr) : Sp := fun vs G Z _ => ∃ xs ts, vs = [.ref C, .str (pageT xs ts)] ∧ Valid xs ∧ Way xs ts ∧
  ∀ G' x p q L, Same G G' → G x = none → WorksAt K C G' x p q xs L → L.map (fun t : Tie => t.2) = ts → Z (.ref x) G'
def rCut : V → List V → Hp → VK → Prop := fun x xs G Z => ∃ a b, x = .str a ∧ xs = [.str b] ∧ (b.length == 0) = false ∧ a.length + 2 ≤ sizeLine ∧ rNewStrs (Txt.split a b) G Z
def rTupL (K : PySem.W.Frag) : List V → Hp → VK → Prop := fun xs G Z => ∃ p ys, xs = [.ref p] ∧ ((SqL K G p ys ∧ ∀ l, G l = none → Z (.ref l) (upd G l (.tup ys))) ∨ (SqT K G p ys ∧ Z (.ref p) G))
theorem toS_some : (toS.length == 0) = false := by decide +kernel
theorem nlS_some : (nlS.length == 0) = false := by decide +kernel
theorem spS_some : (spS.length == 0) = false := by decide +kernel
section
variable {P : Program} {w : World} {K : PySem.W.Frag} {mg : Str → Option Value} {base : Heap}
theorem scRead : FnScope nRead ["cls", "text"] (defScope sRead) := ⟨rfl, rfl, rfl, by decide +kernel, rfl, by decide +kernel, by decide +kernel⟩
theorem ok_read {f C fI : Addr} {fd fdI : FuncData} (F : Fun K "read" "Works.read" sRead f fd) (T : TW K mg C)
    (M : Mk K C fI) (GI : FnOk P w K mg base CX0 4 fI fdI ["self", "parts", "ties"] (spInit K C)) (bI : Binds K fdI ["self", "parts", "ties"] []) :
    FnOk P w K mg base CX0 6 f fd ["cls", "text"] (spRead K C) := by
  refine F.ok scRead (fun vs G Z E h => ?_) (fun cdv A out st G vs Z E hr h => ?_)
  · obtain ⟨xs, ts, rfl, _⟩ := h
    rfl
  · obtain ⟨xs, ts, rfl, ok, way, fin⟩ := h
    have rt := way.right
    have few := way.few ok
    refine ⟨_, (pss_cons (ps_if (pt_not (pt_val (pe_callB call_isi (by rfl) T.c.n.isi boot_isinstance (pa_cons (pv 1) (pa_cons (pe_bltn (v := .ty "str") (by rfl) T.c.n.str boot_str rfl) pa_nil))))) (pss_one ps_never) pss_nil)
        (pss_cons (ps_asg (pe_split (pv 1) pe_str) (pg_star rfl (pg_name (i := 2) scRead.nd rfl (Or.inl rfl)) (pg_name (i := 3) scRead.nd rfl (Or.inl rfl))))
        (pss_cons (ps_set (i := 4) scRead.nd rfl (Or.inl rfl) (pe_callTy call_tuple_of (by rfl) T.c.tup boot_tuple (pa_cons (pe_split (pv 2) pe_str) pa_nil)))
        (pss_cons (ps_set (i := 5) scRead.nd rfl (Or.inl rfl) (pe_callTy call_tuple_of (by rfl) T.c.tup boot_tuple (pa_cons
          (pe_lc (own := [("line", 6)]) (g := gName 6) (tt := tYes) (te := tCB (rTupL K) (tCons (tM1 rCut (tVar 6) (tC (.str toS))) tNil)) rfl scRead.nd (pi_list (pv 3)) (blkOk_by (N := nRead) (sc := defScope sRead) (by decide +kernel))
            (fun _ _ _ _ _ => pg_name (i := 6) scRead.nd rfl (Or.inl rfl)) (fun _ _ _ _ _ => pts_nil)
            (fun _ _ _ _ _ => pe_callTy call_tuple_of (by rfl) T.c.tup boot_tuple (pa_cons (pe_split (pv 6) pe_str) pa_nil))) pa_nil)))
        (pss_one (ps_try_thru0 (pss_one (ps_ret (pe_makeL (i := 0) M GI (hr.mono (by decide)) rfl (.inl rfl) bI .nil pass0 (pa_cons (pv 4) (pa_cons (pv 5) pa_nil))))))))))), ?_⟩
    refine ⟨_, rfl, _, _, _, _, true, rfl, .ty _, .base (.str _), kit_ty (by decide +kernel), _, rfl, iteF ?_⟩
    have pl := page_len ok rt few
    refine ⟨_, rfl, ⟨_, rfl⟩, _, _, rfl, rfl, nlS_some, by rw [sizeLine_eq]; omega, fun p1 h1 => ?_⟩
    have sp1 : (upd G p1 (.lst ((Txt.split (pageT xs ts) "\n").map V.str))) p1 = some (.lst (.str (Txt.join spS xs) :: (ts.map lineT).map V.str)) := by
      rw [upd_same]
      exact congrArg (fun z : List Str => some (HO.lst (z.map V.str))) (split_page ok rt)
    refine ⟨p1, .str (Txt.join spS xs), (ts.map lineT).map V.str, rfl, SqL.of sp1, by rw [List.length_map, List.length_map]; omega, fun D hD => ?_⟩
    have s1 : Same G (upd (upd G p1 (.lst ((Txt.split (pageT xs ts) "\n").map V.str))) D (.lst ((ts.map lineT).map V.str))) := ((Same.refl G).new h1).new hD
    have eD : (upd (upd G p1 (.lst ((Txt.split (pageT xs ts) "\n").map V.str))) D (.lst ((ts.map lineT).map V.str))) D = some (.lst ((ts.map lineT).map V.str)) := upd_same
    generalize (upd (upd G p1 (.lst ((Txt.split (pageT xs ts) "\n").map V.str))) D (.lst ((ts.map lineT).map V.str))) = G1 at s1 eD ⊢
    refine ⟨_, rfl, ⟨_, rfl⟩, _, _, rfl, rfl, spS_some, by have := heads_len ok; rw [sizeLine_eq]; omega, fun p2 h2 => ?_⟩
    have sp2 : (upd G1 p2 (.lst ((Txt.split (Txt.join spS xs) " ").map V.str))) p2 = some (.lst (xs.map V.str)) := by
      rw [upd_same]
      exact congrArg (fun z : List Str => some (HO.lst (z.map V.str))) (split_heads ok)
    refine ⟨p2, xs.map V.str, rfl, .inl ⟨SqL.of sp2, fun p hp => ?_⟩⟩
    have s2 : Same G1 (upd (upd G1 p2 (.lst ((Txt.split (Txt.join spS xs) " ").map V.str))) p (.tup (xs.map V.str))) := ((Same.refl G1).new h2).new hp
    have ep : (upd (upd G1 p2 (.lst ((Txt.split (Txt.join spS xs) " ").map V.str))) p (.tup (xs.map V.str))) p = some (.tup (xs.map V.str)) := upd_same
    generalize (upd (upd G1 p2 (.lst ((Txt.split (Txt.join spS xs) " ").map V.str))) p (.tup (xs.map V.str))) = G2 at s2 ep ⊢
    refine ⟨_, rfl, D, rfl, ⟨_, SqL.of (s2 _ _ eD)⟩, fun B hB => ?_⟩
    refine lc_list (K := K) (a := D) (xs := (ts.map lineT).map V.str) (fun i G' => ∃ L', Same G2 G' ∧ G' B = some (.lst (refs L')) ∧ (∀ e ∈ L', TieOk G' e) ∧ L'.map (fun t : Tie => t.2) = ts.take i)
      ⟨[], (Same.refl G2).new hB, upd_same, fun _ m => (List.not_mem_nil m).elim, rfl⟩ (fun i G' _ ⟨_, s, _⟩ => SqL.of (s _ _ (s2 _ _ eD))) ?_ ?_
    · rintro i y G3 hi ⟨L', s3, eB, ties, eq_⟩
      obtain ⟨e, he, rfl⟩ : ∃ e, ts[i]? = some e ∧ y = V.str (lineT e) := by
        rw [List.getElem?_map, List.getElem?_map] at hi
        cases c : ts[i]? with
        | none =>
          rw [c] at hi
          cases hi
        | some o =>
          rw [c] at hi
          exact ⟨o, rfl, (Option.some.inj hi).symm⟩
      have me := List.mem_of_getElem? he
      have ll := line_len ok (rt e me)
      have len : L'.length ≤ 64 := by
        have q := congrArg List.length eq_
        rw [List.length_map, List.length_take] at q
        omega
      refine ⟨rfl, _, rfl, ⟨_, rfl⟩, _, _, rfl, rfl, toS_some, by rw [sizeLine_eq]; omega, fun p3 h3 => ?_⟩
      have sp3 : (upd G3 p3 (.lst ((Txt.split (lineT e) toS).map V.str))) p3 = some (.lst [.str e.1, .str e.2]) := by
        rw [upd_same]
        exact congrArg (fun z : List Str => some (HO.lst (z.map V.str))) (split_line ok (rt e me))
      refine ⟨p3, [.str e.1, .str e.2], rfl, .inl ⟨SqL.of sp3, fun t ht => ?_⟩⟩
      have s4 : Same G3 (upd (upd G3 p3 (.lst ((Txt.split (lineT e) toS).map V.str))) t (.tup [.str e.1, .str e.2])) := ((Same.refl G3).new h3).new ht
      have et : (upd (upd G3 p3 (.lst ((Txt.split (lineT e) toS).map V.str))) t (.tup [.str e.1, .str e.2])) t = some (.tup [.str e.1, .str e.2]) := upd_same
      generalize (upd (upd G3 p3 (.lst ((Txt.split (lineT e) toS).map V.str))) t (.tup [.str e.1, .str e.2])) = G4 at s4 et ⊢
      have eB4 := s4 _ _ eB
      refine ⟨_, eB4, ?_, L' ++ [(t, e)], fun b u hb => ?_, ?_, fun z hz => ?_, ?_⟩
      · unfold refs
        rw [List.length_map]
        exact small1000 (by omega)
      · rw [upd_ne (ne_of_none hb hB)]
        exact s4 _ _ (s3 b u hb)
      · rw [upd_same]
        unfold refs
        rw [List.map_append]
        rfl
      · rcases List.mem_append.mp hz with hz | hz
        · have q := s4 _ _ (ties z hz)
          show upd G4 B _ z.1 = _
          rw [upd_ne (ne_of q eB4 nofun)]
          exact q
        · obtain rfl := List.mem_singleton.mp hz
          show upd G4 B _ t = _
          rw [upd_ne (ne_of et eB4 nofun)]
          exact et
      · rw [List.map_append, eq_, List.take_succ, he]
        rfl
    · rintro G3 ⟨L', s3, eB, ties, eq_⟩
      rw [List.length_map, List.length_map, List.take_length] at eq_
      refine ⟨B, refs L', rfl, .inl ⟨SqL.of eB, fun q hq => ?_⟩⟩
      have s4 : Same G3 (upd G3 q (.tup (refs L'))) := (Same.refl G3).new hq
      have tq : TiesAt K (upd G3 q (.tup (refs L'))) q L' := .mk' upd_same fun z hz => s4 _ _ (ties z hz)
      have all := (s3.trans s4)
      refine ⟨rfl, _, rfl, _, rfl, init_ok (SqT.of (all _ _ ep)) tq ok (way.roads eq_) fun x G5 s5 nx wk => ?_⟩
      exact fin G5 x p q L' (((s1.trans s2).trans all).trans s5) (Same.free (((s1.trans s2).trans all)) nx) wk eq_
end
end Fs

namespace Fs
open PySem PySem.Spec PyProof.Rows L2 _root_.TL
abbrev nPage : List Str := ["_law_heads_here", "_law_roads_here", "_law_one", "_law_other"]
def spPage (K : PySem.W.Frag) : Sp := fun vs G Z _ => ∃ p q xs L, vs = [.ref p, .ref q] ∧ SqT K G p (xs.map V.str) ∧ TiesAt K G q L ∧ Valid xs ∧ Roads xs L ∧ ∀ G', Same G G' → Z (.str (pageT xs (L.map fun t : Tie => t.2))) G'
def rAddS : R2 := fun x y G Z => ∃ i j, x = .str i ∧ y = .str j ∧ i.length + j.length ≤ sizeLine ∧ Z (.str (i ++ j)) G
theorem op_addS {X : Cx} : OpR X (binaryOp .Add) rAddS := op_add_str
end Fs

namespace Fs
open PySem PySem.Spec PyProof.Rows L2
abbrev sGetT : Stmt := (inClass (top 27) 3)
/-! ### what the class has -/
structure TM (K : PySem.W.Frag) (C fE fS fR pR pT fT : Addr) (mc : Value) : Prop where
  i : TI K C
  mks : PySem.W.makesIn K C = true
  nf : PySem.W.notFirst K C (.ref C) = true
  eqA : PySem.W.findIn K (.ref C) "__eq__" = some (some (.ref fE))
  eqF : PySem.W.isFn K (.ref fE) = true
  neA : PySem.W.findIn K (.ref C) "__ne__" = some (some (.builtin "object.__ne__"))
  strA : PySem.W.findIn K (.ref C) "__str__" = some (some (.ref fS))
  strF : PySem.W.isFn K (.ref fS) = true
  rd : ClX.CRead K C mc
  rm : ClX.CMet K C mc "read" pR fR
  tie : PropOf K C "ties" pT fT
/-! ### heaps in which lists may change -/
def Hold (G G' : Hp) : Prop := ∀ b o, (∀ xs, o ≠ .lst xs) → G b = some o → G' b = some o
theorem Hold.refl (G : Hp) : Hold G G := fun _ _ _ q => q
theorem Hold.trans {G G1 G2 : Hp} (a : Hold G G1) (b : Hold G1 G2) : Hold G G2 := fun c o n q => b c o n (a c o n q)
theorem Hold.of {G G' : Hp} (s : Same G G') : Hold G G' := fun b o _ q => s b o q
theorem Hold.grow {G G' : Hp} {j : Addr} {xs : List V} (h : G j = some (.lst xs)) (g : Grow j G G') : Hold G G' := fun b o n q => g b o (fun e => by
  rw [e, h] at q
  exact n xs (Option.some.inj q).symm) q
theorem Hold.jug {G G' : Hp} {j : Addr} (h : Jug G j) (g : Grow j G G') : Hold G G' := by
  obtain ⟨a, b, c, e, _⟩ := h
  exact Hold.grow e g
theorem Hold.put {G : Hp} {a : Addr} {xs : List V} {o : HO} (h : G a = some (.lst xs)) : Hold G (upd G a o) := Hold.grow h ((Grow.refl a G).at_)
theorem Hold.seqT {K : PySem.W.Frag} {G G' : Hp} {a : Addr} {xs : List V} (g : Hold G G') (h : SqT K G a xs) : SqT K G' a xs := by
  rcases h with (h | ⟨o, h⟩) | h
  · exact .inl (.inl (g _ _ nofun h))
  · exact .inl (.inr ⟨o, g _ _ nofun h⟩)
  · exact .inr h
theorem TiesAt.hold {K : PySem.W.Frag} {G G' : Hp} {q : Addr} {L : List Tie} (h : TiesAt K G q L) (g : Hold G G') : TiesAt K G' q L := ⟨g.seqT h.tup, fun e he => g.seqT (h.each e he)⟩
theorem WorksAt.hold {K : PySem.W.Frag} {C : Addr} {G G' : Hp} {x p q : Addr} {xs : List Str} {L : List Tie} (h : WorksAt K C G x p q xs L) (g : Hold G G') : WorksAt K C G' x p q xs L :=
  ⟨h.ins.imp fun _ e => g _ _ nofun e, g.seqT h.par, h.tie.hold g, h.ok, h.rds⟩
/-! ### rows: works, and the pair that they were made of -/
structure Row where
  x : Addr
  p : Addr
  q : Addr
  b : Addr
  xs : List Str
  L : List Tie
structure RowOk (K : PySem.W.Frag) (C : Addr) (G : Hp) (j A B : Addr) (r : Row) : Prop where
  wk : WorksAt K C G r.x r.p r.q r.xs r.L
  pair : G r.b = some (.lst [.ref r.p, .ref r.q])
  nj : r.b ≠ j
  nA : r.b ≠ A
  nB : r.b ≠ B
def Mv (j A B : Addr) (G G' : Hp) : Prop := Hold G G' ∧ ∀ c o, c ≠ j → c ≠ A → c ≠ B → G c = some o → G' c = some o
theorem Mv.refl {j A B : Addr} (G : Hp) : Mv j A B G G := ⟨Hold.refl G, fun _ _ _ _ _ q => q⟩
theorem Mv.trans {j A B : Addr} {G G1 G2 : Hp} (a : Mv j A B G G1) (b : Mv j A B G1 G2) : Mv j A B G G2 := ⟨a.1.trans b.1, fun c o n1 n2 n3 q => b.2 c o n1 n2 n3 (a.2 c o n1 n2 n3 q)⟩
theorem Mv.of {j A B : Addr} {G G' : Hp} (s : Same G G') : Mv j A B G G' := ⟨Hold.of s, fun c o _ _ _ q => s c o q⟩
theorem Mv.jug {j A B : Addr} {G G' : Hp} (h : Jug G j) (g : Grow j G G') : Mv j A B G G' := ⟨Hold.jug h g, fun c o n _ _ q => g c o n q⟩
theorem Mv.atA {j A B : Addr} {G : Hp} {xs : List V} {o : HO} (h : G A = some (.lst xs)) : Mv j A B G (upd G A o) := ⟨Hold.put h, fun c o _ n _ q => by rw [upd_ne n]; exact q⟩
theorem Mv.atB {j A B : Addr} {G : Hp} {xs : List V} {o : HO} (h : G B = some (.lst xs)) : Mv j A B G (upd G B o) := ⟨Hold.put h, fun c o _ _ n q => by rw [upd_ne n]; exact q⟩
theorem RowOk.mv {K : PySem.W.Frag} {C : Addr} {G G' : Hp} {j A B : Addr} {r : Row} (h : RowOk K C G j A B r) (m : Mv j A B G G') : RowOk K C G' j A B r :=
  ⟨h.wk.hold m.1, m.2 _ _ h.nj h.nA h.nB h.pair, h.nj, h.nA, h.nB⟩
/-! ### a pair as data -/
def rowD (r : Row) : PyData := .list [.tuple (r.xs.map PyData.str), .tuple ((r.L.map fun t : Tie => t.2).map tieD)]
theorem RowOk.dp {K : PySem.W.Frag} {C : Addr} {G : Hp} {j A B : Addr} {r : Row} (h : RowOk K C G j A B r) : Dp K G (.ref r.b) (rowD r) :=
  .lst (SqL.of h.pair) (.cons (.tup h.wk.par (dp_strs r.xs)) (.cons h.wk.tie.dp .nil))
theorem eqv_row (r s : Row) : PyData.eqv (rowD r) (rowD s) = decide (r.xs = s.xs ∧ (r.L.map fun t : Tie => t.2) = s.L.map fun t : Tie => t.2) := by
  unfold rowD
  simp only [PyData.eqv, PyData.eqvAll]
  rw [eqvAll_strs, eqvAll_ties, Bool.and_true, Bool.decide_and]
theorem fine_ties {xs : List Str} {L : List Tie} (ok : Valid xs) (rds : Roads xs L) : Fine (.tuple ((L.map fun t : Tie => t.2).map tieD)) 2 2000 := by
  have few := few_roads ok rds
  refine ((FineAll.of (a := 1) (u := 18) (n := 64) (fun d hd => ?_) (by rw [List.length_map, List.length_map]; exact few)).tup).mono (by decide) (by decide)
  obtain ⟨e, he, rfl⟩ := List.mem_map.mp hd
  have rt := rds.right e he
  have n1 := ok.2.2.2 _ rt.1
  have n2 := ok.2.2.2 _ rt.2
  exact (FineAll.cons (Fine.str (name_lay n1) (name_small n1)) (FineAll.cons (Fine.str (name_lay n2) (name_small n2)) FineAll.nil)).tup
theorem fine_row {C : Addr} {K : PySem.W.Frag} {G : Hp} {j A B : Addr} {r : Row} (h : RowOk K C G j A B r) : Fine (rowD r) 3 2075 :=
  (FineAll.cons ((fine_names h.wk.ok (fun _ m => m) h.wk.ok.2.1).mono (by decide) (Nat.le_refl 72)) (FineAll.cons (fine_ties h.wk.ok h.wk.rds) FineAll.nil)).list.mono (by decide) (by decide)
section
variable {P : Program} {w : World} {K : PySem.W.Frag} {mg : Str → Option Value} {base : Heap}
theorem scGetT : FnScope ["self"] ["self"] (defScope sGetT) := ⟨rfl, rfl, rfl, by decide +kernel, rfl, by decide +kernel, by decide +kernel⟩
theorem ok_getT {f C : Addr} {fd : FuncData} (F : Fun K "ties" "Works.ties" sGetT f fd) (T : TW K mg C) : FnOk P w K mg base CX0 1 f fd ["self"] (getSp C "_ties") := by
  obtain ⟨oc, od, kV, doc, pm, an, cdv, ct, osl, rfl, lk, code⟩ := F.ex
  exact fn_getter lk code scGetT rfl rfl T.cl T.nT
end
end Fs

namespace Fs
open PySem PySem.Spec PyProof.Rows L2
abbrev sLen : Stmt := (inClass (top 27) 5)
abbrev sGetP : Stmt := (inClass (top 27) 2)
/-- a call with keywords where no default is needed -/
theorem kb_all {K : PySem.W.Frag} {x qual : Str} {params : Arguments} {body : List Stmt} {scope : Scope} {dvs : List V} {f : Addr} {fd : FuncData} {ps : List Str} (F : FunD K x qual params body scope dvs [] f fd) (n : Nat) (ks : List Str) (g : {α : Type} → List α → List α → List α) (hd : dvs ≠ [])
    (hrel : ∀ {vs zs : List V} {us ws : List Value}, Vals vs us → Vals zs ws → Vals (g vs zs) (g us ws))
    (h : ∀ (T : Addr) (kV doc pm : Value) (an : Option Addr) (cdv ct : Value) (us its ws : List Value), us.length = n → its.length = dvs.length → ws.length = ks.length →
      ∃ k, bindArgs (PySem.W.fnOf x qual params body scope (.ref T) kV doc pm an cdv ct) ⟨us, ks.zip ws⟩ = seqItems? (.ref T) >>= k ∧ k (some its.toArray) = pure (ps.zip (g us ws))) :
    KBn K fd ps n ks (fun us ws => g us ws) (fun vs zs => g vs zs) := by
  obtain ⟨oc, od, dV, kV, doc, pm, an, cdv, ct, osl, rfl, lk, hcd, hD, hK⟩ := F.ex
  rcases hD with ⟨e, _⟩ | ⟨_, T, o, its, m, rfl, lT, oT, rT⟩
  · exact absurd e hd
  · refine ⟨fun s us ws X l1 l2 => ?_, fun r1 r2 => hrel r1 r2⟩
    obtain ⟨k, e1, e2⟩ := h T kV doc pm an cdv ct us its ws l1 rT.length.symm l2
    refine BindsTo.of_looks fun M => ?_
    rw [e1]
    exact looks_items X lT oT (.of_pure e2)
theorem vals_swap : ∀ {vs zs : List V} {us ws : List Value}, Vals vs us → Vals zs ws → Vals (vs ++ zs.reverse) (us ++ ws.reverse) := fun r1 r2 => r1.append r2.reverse
theorem Fine.small {n : Nat} (h : n ≤ 8) : Fine (.int (n : Int)) 0 8 := by
  have : n = 0 ∨ n = 1 ∨ n = 2 ∨ n = 3 ∨ n = 4 ∨ n = 5 ∨ n = 6 ∨ n = 7 ∨ n = 8 := by omega
  rcases this with rfl | rfl | rfl | rfl | rfl | rfl | rfl | rfl | rfl <;> exact ⟨rfl, by decide +kernel, by decide +kernel, by decide +kernel, by decide +kernel⟩
theorem join_ascii {y : Str} (hy : ∀ c ∈ y.cps.toList, c < 128) : ∀ {l : List Str}, (∀ z ∈ l, ∀ c ∈ z.cps.toList, c < 128) → ∀ c ∈ (Txt.join y l).cps.toList, c < 128
  | [], _ => fun c hc => by
    rw [_root_.TL.join_eq] at hc
    exact (List.not_mem_nil hc).elim
  | [a], h => fun c hc => by
    rw [_root_.TL.join_eq] at hc
    exact h a List.mem_cons_self c hc
  | a :: b :: r, h => fun c hc => by
    have ih := join_ascii hy (l := b :: r) fun z hz => h z (List.mem_cons_of_mem _ hz)
    rw [_root_.TL.join_eq] at ih hc
    have hc2 : c ∈ _root_.TL.tl (a ++ y ++ Str.join y (b :: r)) := hc
    rw [_root_.TL.tl_append, _root_.TL.tl_append] at hc2
    rcases List.mem_append.mp hc2 with m | m
    · rcases List.mem_append.mp m with m | m
      · exact h a List.mem_cons_self c m
      · exact hy c m
    · exact ih c m
theorem ascii_lay {z : Str} (h : ∀ c ∈ z.cps.toList, c < 128) : PyData.canLay0 (.str z) = true := by
  show z.cps.all _ = true
  rw [← Array.all_toList, List.all_eq_true]
  intro c hc
  have := h c hc
  exact decide_eq_true (by omega)
theorem sep_ascii {z : Str} (h : z.cps.toList.all (fun c => decide (c < 128)) = true) : ∀ c ∈ z.cps.toList, c < 128 := fun c hc => of_decide_eq_true (List.all_eq_true.mp h c hc)
theorem heads_ascii {xs : List Str} (ok : Valid xs) : ∀ c ∈ (Txt.join spS xs).cps.toList, c < 128 := join_ascii (sep_ascii (by decide +kernel)) fun z hz => name_ascii (ok.2.2.2 z hz)
theorem page_ascii {xs : List Str} {ts : List (Str × Str)} (ok : Valid xs) (h : Right xs ts) : ∀ c ∈ (pageT xs ts).cps.toList, c < 128 := by
  refine join_ascii (sep_ascii (by decide +kernel)) fun z hz => ?_
  rcases List.mem_cons.mp hz with rfl | hz
  · exact heads_ascii ok
  · obtain ⟨e, he, rfl⟩ := List.mem_map.mp hz
    refine join_ascii (sep_ascii (by decide +kernel)) fun z hz => ?_
    rcases List.mem_cons.mp hz with rfl | hz
    · exact name_ascii (ok.2.2.2 _ (h e he).1)
    · obtain rfl := List.mem_singleton.mp hz
      exact name_ascii (ok.2.2.2 _ (h e he).2)
def spLen (K : PySem.W.Frag) (C : Addr) : Sp := fun vs G Z _ => ∃ x p q xs L, vs = [.ref x] ∧ WorksAt K C G x p q xs L ∧ Z (.int (xs.length : Nat)) G
theorem no_ties {K : PySem.W.Frag} {G : Hp} {e : Addr} {od : Option Addr} {n : Nat} {sl : Array (Option Value)} (h : K.lookup e = some ⟨.type "tuple", od, .seq #[] n, sl⟩) : TiesAt K G e [] :=
  ⟨.inr ⟨_, #[], n, h, rfl, rfl, Nat.zero_le _, .nil⟩, fun _ m => (List.not_mem_nil m).elim⟩
theorem roads_nil {xs : List Str} : Roads xs [] := ⟨List.nodup_nil, fun _ m => (List.not_mem_nil m).elim⟩
section
variable {P : Program} {w : World} {K : PySem.W.Frag} {mg : Str → Option Value} {base : Heap}
theorem scLen : FnScope ["self"] ["self"] (defScope sLen) := ⟨rfl, rfl, rfl, by decide +kernel, rfl, by decide +kernel, by decide +kernel⟩
theorem ok_len {f C : Addr} {fd : FuncData} (F : Fun K "__len__" "Works.__len__" sLen f fd) (T : TW K mg C) : FnOk P w K mg base CX0 1 f fd ["self"] (spLen K C) := by
  refine F.ok scLen (fun vs G Z E h => ?_) (fun cdv A out st G vs Z E hr h => ?_)
  · obtain ⟨x, p, q, xs, L, rfl, _⟩ := h
    rfl
  · obtain ⟨x, p, q, xs, L, rfl, wk, fin⟩ := h
    obtain ⟨dx, hx⟩ := wk.ins
    refine ⟨_, (pss_one (ps_ret (pe_callB call_len_seq (by rfl) T.c.n.len PySem.boot_len (pa_cons (pe_fld (pv 0) rfl) pa_nil)))), ?_⟩
    refine ⟨_, rfl, x, C, dx, _, _, rfl, hx, T.cl, T.nP, wf_parts p q, p, _, rfl, .inr wk.par, ?_⟩
    rw [List.length_map]
    exact fin
theorem scGetP : FnScope ["self"] ["self"] (defScope sGetP) := ⟨rfl, rfl, rfl, by decide +kernel, rfl, by decide +kernel, by decide +kernel⟩
theorem ok_getP {f C : Addr} {fd : FuncData} (F : Fun K "parts" "Works.parts" sGetP f fd) (T : TW K mg C) : FnOk P w K mg base CX0 1 f fd ["self"] (getSp C "_parts") := by
  obtain ⟨oc, od, kV, doc, pm, an, cdv, ct, osl, rfl, lk, code⟩ := F.ex
  exact fn_getter lk code scGetP rfl rfl T.cl T.nP
end
end Fs

namespace Fs
open PySem PySem.Spec PyProof.Rows L2 LamX NdefX
/-- Works(v, u): right parts with no ties, or the error -/
def spInitX (K : PySem.W.Frag) (C CP : Addr) : Sp := fun vs G Z E => ∃ x dx v u o, vs = [.ref x, v, u] ∧ G x = some (.ins C dx []) ∧ PartsCase K G v o ∧
  (o = none → ∃ q p xs, u = .ref q ∧ v = .ref p ∧ TiesAt K G q [] ∧ SqT K G p (xs.map V.str) ∧ Valid xs ∧ ∀ G', Grow x G G' → G' x = some (.ins C dx (wf p q)) → Z .non G') ∧
  (∀ y, o = some y → ∀ d G', Same G G' → G' d = some (.xd [("index", y)]) → E (.ref CP) (some d) G')
section
variable {P : Program} {w : World} {K : PySem.W.Frag} {mg : Str → Option Value} {base : Heap}
theorem ok_initX {f C fA fB CP : Addr} {fd fdA fdB : FuncData} {dvs : List V} (F : FunD K "__init__" "Works.__init__" (defArgs sInit) (defBody sInit) (defScope sInit) dvs [] f fd) (T : TW K mg C)
    (DA : DefAt K mg "_check_parts" ["parts"] sParts fA fdA) (GA : FnOk P w K mg base (L2N.CX P w) 3 fA fdA ["parts"] (spPartsX K CP))
    (DB : DefAt K mg "_check_ties" ["ties", "parts"] sTies fB fdB) (GB : FnOk P w K mg base CX0 3 fB fdB ["ties", "parts"] (spTies K)) :
    FnOk P w K mg base (L2N.CX P w) 4 f fd ["self", "parts", "ties"] (spInitX K C CP) := by
  refine F.ok (CX := L2N.CX P w) scInit (fun vs G Z E h => ?_) (fun cdv A out st G vs Z E hr h => ?_)
  · obtain ⟨x, dx, v, u, o, rfl, _⟩ := h
    rfl
  · obtain ⟨x, dx, v, u, o, rfl, hx, pc, right, wrong⟩ := h
    refine ⟨_, pss_cons (ps_expr (pe_call GA hr rfl DA.gl DA.kp DA.bd .nil passes_cx (pa_cons (pv 1) pa_nil)))
      (pss_cons (ps_expr (pe_call GB hr rfl DB.gl DB.kp DB.bd .nil pass0 (pa_cons (pv 2) (pa_cons (pv 1) pa_nil))))
      (pss_cons (ps_fld (pv 0) (pv 1) rfl) (pss_one (ps_fld (pv 0) (pv 2) rfl)))), ?_⟩
    refine ⟨_, rfl, v, o, rfl, pc, fun eo G1 s1 => ?_, wrong⟩
    obtain ⟨q, p, xs, rfl, rfl, hq, hp, ok, fin⟩ := right eo
    refine ⟨_, rfl, _, rfl, q, p, xs, [], rfl, hq.same s1, Evl.ex_t s1 hp, ok, roads_nil, fun G2 s2 => ?_⟩
    have h2 := s2 _ _ (s1 _ _ hx)
    refine ⟨_, rfl, _, rfl, x, C, dx, [], rfl, h2, T.cl, T.nP, (by show 0 < 1000; decide), _, rfl, _, rfl, x, C, dx, _, rfl, upd_same, T.cl, T.nT, (by show 1 < 1000; decide), ?_⟩
    refine fin _ (((Grow.of (s1.trans s2)).at_).at_) ?_
    rw [upd_same]
    rfl
end
/-- Works(v, ..).parts: its parts as they were passed, or the error -/
theorem initX_ok {K : PySem.W.Frag} {C CP : Addr} {G : Hp} {v u : V} {o : Option V} {Y : Addr → Hp → Prop} {E : XK} (pc : PartsCase K G v o) (hu : o = none → ∃ q, u = .ref q ∧ TiesAt K G q [])
    (k : o = none → ∀ x dx p q G', v = .ref p → Same G G' → G' x = some (.ins C dx (wf p q)) → Y x G') (wrong : ∀ y, o = some y → ∀ d G', Same G G' → G' d = some (.xd [("index", y)]) → E (.ref CP) (some d) G') (x dx : Addr) (nx : G x = none) (nd : G dx = none) (ne : dx ≠ x) :
    spInitX K C CP [.ref x, v, u] (upd (upd G dx (.own x)) x (.ins C dx [])) (fun v H2 => v = .non ∧ Y x H2) E := by
  have s0 : Same G (upd (upd G dx (.own x)) x (.ins C dx [])) := made_same nx nd (Grow.refl x _)
  refine ⟨x, dx, v, u, o, rfl, upd_same, pc.ext (ExtN.of s0), fun eo => ?_, fun y ey d G' s ed => wrong y ey d G' (s0.trans s) ed⟩
  obtain ⟨q, rfl, hq⟩ := hu eo
  cases pc with
  | other t ty kt e =>
    rw [eo] at e
    cases e
  | tup p ys ev h each few e =>
    subst ev
    obtain ⟨xs, rfl, ok⟩ := due_none (e.symm.trans eo)
    exact ⟨q, p, xs, rfl, rfl, hq.same s0, Evl.ex_t s0 h, ok, fun G' g eg => ⟨rfl, k eo x dx p q G' rfl (made_same nx nd g) eg⟩⟩
end Fs

namespace Fs
open PySem PySem.Spec PyProof.Rows L2 LamX NdefX
def idxE : V → PyData
  | .int i => .int i
  | _ => .none
theorem Fine.nought : Fine .none 0 0 := ⟨rfl, by decide +kernel, rfl, Nat.le_refl _, by decide +kernel⟩
def intB (n : Nat) : Bool := (PyData.int (n : Int)).canLay0 && (PyData.int (n : Int)).showable && (PyData.int (n : Int)).intsShort 13 && decide ((PyData.int (n : Int)).depth ≤ 0) && decide ((PyData.int (n : Int)).weight ≤ 8) && decide ((n : Int).natAbs.log2 < 1920) &&
  PyData.canLay0 (.str (PyData.int (n : Int)).shown)
theorem ints_b : ((List.range 250).all intB) = true := by decide +kernel
/-- an index that is told: None, or a small number -/
def IdxE (x : V) : Prop := x = .non ∨ ∃ i : Nat, i < 250 ∧ x = .int i
theorem int_b {i : Nat} (h : i < 250) : intB i = true := List.all_eq_true.mp ints_b i (List.mem_range.mpr h)
theorem idxE_shows {K : PySem.W.Frag} {G : Hp} {x : V} (h : IdxE x) : Shows K G x (idxE x) := by
  rcases h with rfl | ⟨i, hi, rfl⟩
  · exact ⟨.non, Fine.nought.mono (by decide) (by decide), fun j q => nomatch q⟩
  · have b := int_b hi
    unfold intB at b
    simp only [Bool.and_eq_true, decide_eq_true_eq] at b
    obtain ⟨⟨⟨⟨⟨⟨b1, b2⟩, b3⟩, b4⟩, b5⟩, b6⟩, b7⟩ := b
    refine ⟨.int _, ⟨b1, b2, b3, Nat.le_trans b4 (by decide), Nat.le_trans b5 (by decide)⟩, fun j q => ?_⟩
    cases q
    exact b6
theorem idxE_lay {x : V} (h : IdxE x) : PyData.canLay0 (.str (idxE x).shown) = true := by
  rcases h with rfl | ⟨i, hi, rfl⟩
  · decide +kernel
  · have b := int_b hi
    unfold intB at b
    simp only [Bool.and_eq_true, decide_eq_true_eq] at b
    exact b.2
end Fs

namespace Fs
open PySem PySem.Spec PyProof.Rows L2 LamX NdefX
/-! ### ties, right or not -/
def namesOf (xs : List Str) : V → V → Option (Str × Str)
  | .str a, .str b => if a ∈ xs ∧ b ∈ xs ∧ a ≠ b then some (a, b) else none
  | _, _ => none
theorem names_some {xs : List Str} {v1 v2 : V} {e : Str × Str} (h : namesOf xs v1 v2 = some e) : v1 = .str e.1 ∧ v2 = .str e.2 ∧ e.1 ∈ xs ∧ e.2 ∈ xs ∧ e.1 ≠ e.2 := by
  unfold namesOf at h
  split at h
  · split at h
    · next c =>
      cases h
      exact ⟨rfl, rfl, c⟩
    · cases h
  · cases h
theorem names_among {xs : List Str} {v1 v2 : V} : (amongV v1 xs && (amongV v2 xs && !decide (v1 = v2))) = (namesOf xs v1 v2).isSome := by
  cases v1 with
  | str a =>
    cases v2 with
    | str b =>
      show (decide (a ∈ xs) && (decide (b ∈ xs) && !decide (V.str a = V.str b))) = (if a ∈ xs ∧ b ∈ xs ∧ a ≠ b then some (a, b) else none).isSome
      by_cases h1 : a ∈ xs
      · by_cases h2 : b ∈ xs
        · by_cases h3 : a = b
          · simp [h3]
          · have q3 : ¬ (V.str a = V.str b) := fun z => h3 (V.str.inj z)
            rw [decide_eq_true h1, decide_eq_true h2, decide_eq_false q3, if_pos ⟨h1, h2, h3⟩]
            rfl
        · rw [decide_eq_false h2, if_neg (fun z => h2 z.2.1)]
          simp
      · rw [decide_eq_false h1, if_neg (fun z => h1 z.1)]
        rfl
    | _ => simp [amongV, namesOf]
  | _ => simp [amongV, namesOf]
/-- one thing among ties, and the names of its pair if it is one -/
inductive TItem (K : PySem.W.Frag) (G : Hp) (xs : List Str) (y : V) (e : Option (Str × Str)) : Prop where
  | no (t : Value) (ty : TyX K G y t) (k : PySem.W.kitOne K t (.type "tuple") = some false) (q : e = none)
  | len (a : Addr) (zs : List V) (ev : y = .ref a) (h : SqT K G a zs) (n : zs.length ≠ 2) (q : e = none)
  | pair (a : Addr) (v1 v2 : V) (d1 d2 : PyData) (ev : y = .ref a) (h : SqT K G a [v1, v2]) (s1 : StrOr K G v1) (s2 : StrOr K G v2) (p1 : Dp K G v1 d1) (p2 : Dp K G v2 d2) (f1 : Fine d1 3 1000) (f2 : Fine d2 3 1000) (q : e = namesOf xs v1 v2)
theorem TItem.ext {K : PySem.W.Frag} {G G' : Hp} {xs : List Str} {y : V} {e : Option (Str × Str)} (h : TItem K G xs y e) (x : ExtN G G') : TItem K G' xs y e := by
  cases h with
  | no t ty k q => exact .no t (ext_ty x ty) k q
  | len a zs ev h n q => exact .len a zs ev (ext_seqT x h) n q
  | pair a v1 v2 d1 d2 ev h s1 s2 p1 p2 f1 f2 q => exact .pair a v1 v2 d1 d2 ev (ext_seqT x h) (s1.ext x) (s2.ext x) (dp_ext x p1) (dp_ext x p2) f1 f2 q
theorem TItem.good {K : PySem.W.Frag} {G : Hp} {xs : List Str} {y : V} {e : Str × Str} (h : TItem K G xs y (some e)) : ∃ a, y = .ref a ∧ SqT K G a [.str e.1, .str e.2] ∧ e.1 ∈ xs ∧ e.2 ∈ xs ∧ e.1 ≠ e.2 := by
  cases h with
  | no t ty k q => cases q
  | len a zs ev h n q => cases q
  | pair a v1 v2 d1 d2 ev h s1 s2 p1 p2 f1 f2 q =>
    obtain ⟨rfl, rfl, r⟩ := names_some q.symm
    exact ⟨a, ev, h, r⟩
abbrev TIt := V × Option (Str × Str)
def badT (I : List TIt) (i : Nat) : Bool := match (I.map (·.2)).getD i none with
  | none => true
  | some e => decide (some e ∈ (I.map (·.2)).take i)
def firstT (I : List TIt) : Option Nat := (List.range I.length).find? (badT I)
def tiesDue (I : List TIt) : Option V := (firstT I).map fun i => .int (i : Nat)
inductive TiesCase (K : PySem.W.Frag) (G : Hp) (xs : List Str) (v : V) (o : Option V) : Prop where
  | other (t : Value) (ty : TyX K G v t) (k : PySem.W.kitOne K t (.type "tuple") = some false) (e : o = some .non)
  | tup (a : Addr) (I : List TIt) (ev : v = .ref a) (h : SqT K G a (I.map (·.1))) (each : ∀ p ∈ I, TItem K G xs p.1 p.2) (few : I.length ≤ 200) (e : o = tiesDue I)
theorem TiesCase.ext {K : PySem.W.Frag} {G G' : Hp} {xs : List Str} {v : V} {o : Option V} (h : TiesCase K G xs v o) (x : ExtN G G') : TiesCase K G' xs v o := by
  cases h with
  | other t ty k q => exact .other t (ext_ty x ty) k q
  | tup a I ev h each few q => exact .tup a I ev (ext_seqT x h) (fun p hp => (each p hp).ext x) few q
theorem firstT_some {I : List TIt} {i : Nat} (h : firstT I = some i) : i < I.length ∧ badT I i = true := by
  unfold firstT at h
  exact ⟨List.mem_range.mp (List.mem_of_find?_eq_some h), List.find?_some h⟩
theorem firstT_none {I : List TIt} (h : firstT I = none) : ∀ i < I.length, badT I i = false := fun i hi => by
  have q := (List.find?_eq_none.mp h) i (List.mem_range.mpr hi)
  simpa using q
theorem find_first {p : Nat → Bool} {n i : Nat} (hi : i < n) (before : ∀ j < i, p j = false) (b : p i = true) : (List.range n).find? p = some i := by
  rw [List.find?_eq_some_iff_append]
  refine ⟨b, List.range i, (List.range' (i + 1) (n - i - 1)), ?_, fun a ha => ?_⟩
  · rw [List.range_eq_range', List.range_eq_range', show n = i + (1 + (n - i - 1)) by omega, ← List.range'_append_1, Nat.zero_add]
    congr 1
    rw [show i + (1 + (n - i - 1)) - i - 1 = n - i - 1 by omega, Nat.add_comm 1, List.range'_succ]
  · rw [before a (List.mem_range.mp ha)]
    rfl
theorem firstT_at {I : List TIt} {i : Nat} (hi : i < I.length) (before : ∀ j < i, badT I j = false) (b : badT I i = true) : firstT I = some i := find_first hi before b
theorem tdue_idx {I : List TIt} {x : V} (few : I.length ≤ 200) (h : tiesDue I = some x) : IdxE x := by
  unfold tiesDue at h
  cases c : firstT I with
  | none =>
    rw [c] at h
    cases h
  | some i =>
    rw [c] at h
    cases h
    exact .inr ⟨i, by have := (firstT_some c).1; omega, rfl⟩
theorem TiesCase.idx {K : PySem.W.Frag} {G : Hp} {xs : List Str} {v : V} {o : Option V} (h : TiesCase K G xs v o) : ∀ x, o = some x → IdxE x := fun x e => by
  cases h with
  | other t ty k q =>
    rw [e] at q
    cases q
    exact .inl rfl
  | tup a I ev h each few q => exact tdue_idx few (q.symm.trans e)
theorem badT_false {I : List TIt} {i : Nat} (hi : i < I.length) (h : badT I i = false) : ∃ y e, I[i]? = some (y, some e) ∧ some e ∉ (I.map (·.2)).take i := by
  unfold badT at h
  have at_ : I[i]? = some I[i] := List.getElem?_eq_getElem hi
  have g : (I.map (·.2)).getD i none = I[i].2 := by
    rw [List.getD_eq_getElem?_getD, List.getElem?_map, at_]
    rfl
  rw [g] at h
  cases c : I[i] with
  | mk y e =>
    rw [c] at h at_
    cases e with
    | none => cases h
    | some e => exact ⟨y, e, at_, of_decide_eq_false h⟩
/-- what is before the first bad one: pairs, no two alike -/
theorem goods {K : PySem.W.Frag} {G : Hp} {xs : List Str} {I : List TIt} {n : Nat} (le : n ≤ I.length) (each : ∀ p ∈ I, TItem K G xs p.1 p.2) (before : ∀ j < n, badT I j = false) :
    ∃ L : List Tie, (I.take n).map (·.1) = refs L ∧ (I.take n).map (·.2) = L.map (fun t : Tie => some t.2) ∧ Roads xs L ∧ (∀ t ∈ L, SqT K G t.1 [.str t.2.1, .str t.2.2]) := by
  induction n with
  | zero => exact ⟨[], rfl, rfl, ⟨List.nodup_nil, fun _ m => (List.not_mem_nil m).elim⟩, fun _ m => (List.not_mem_nil m).elim⟩
  | succ n ih =>
    obtain ⟨L, e1, e2, rds, sq⟩ := ih (by omega) fun j hj => before j (by omega)
    obtain ⟨y, e, at_, nin⟩ := badT_false (by omega) (before n (Nat.lt_succ_self n))
    obtain ⟨a, rfl, ha, m1, m2, ne⟩ := (each _ (List.mem_of_getElem? at_)).good
    rw [← List.map_take, e2] at nin
    refine ⟨L ++ [(a, e)], ?_, ?_, ⟨?_, fun t ht => ?_⟩, fun t ht => ?_⟩
    · rw [List.take_succ, at_, List.map_append, e1]
      unfold refs
      rw [List.map_append]
      rfl
    · rw [List.take_succ, at_, List.map_append, e2, List.map_append]
      rfl
    · rw [List.map_append, List.nodup_append]
      refine ⟨rds.1, List.nodup_cons.mpr ⟨List.not_mem_nil, List.nodup_nil⟩, fun x hx z hz q => ?_⟩
      rw [List.mem_singleton.mp hz] at q
      subst q
      obtain ⟨t, ht, et⟩ := List.mem_map.mp hx
      exact nin (List.mem_map.mpr ⟨t, ht, by rw [et]⟩)
    · rcases List.mem_append.mp ht with ht | ht
      · exact rds.2 t ht
      · rw [List.mem_singleton.mp ht]
        exact ⟨m1, m2, ne⟩
    · rcases List.mem_append.mp ht with ht | ht
      · exact sq t ht
      · rw [List.mem_singleton.mp ht]
        exact ha
/-- what is not refused is right ties -/
theorem tdue_none {K : PySem.W.Frag} {G : Hp} {xs : List Str} {I : List TIt} (each : ∀ p ∈ I, TItem K G xs p.1 p.2) (h : tiesDue I = none) : ∃ L : List Tie, I.map (·.1) = refs L ∧ Roads xs L ∧ ∀ t ∈ L, SqT K G t.1 [.str t.2.1, .str t.2.2] := by
  have h' : firstT I = none := by
    unfold tiesDue at h
    cases c : firstT I with
    | none => rfl
    | some i =>
      rw [c] at h
      cases h
  obtain ⟨L, e1, _, r, s⟩ := goods (Nat.le_refl _) each (firstT_none h')
  rw [List.take_length] at e1
  exact ⟨L, e1, r, s⟩
def spTiesX (K : PySem.W.Frag) (CT : Addr) : Sp := fun vs G Z E => ∃ v p xs o, vs = [v, .ref p] ∧ SqT K G p (xs.map V.str) ∧ Valid xs ∧ TiesCase K G xs v o ∧ (o = none → ∀ G', Same G G' → Z .non G') ∧ (∀ x, o = some x → ∀ d G', Same G G' → G' d = some (.xd [("index", x)]) → E (.ref CT) (some d) G')
section
variable {P : Program} {w : World} {K : PySem.W.Frag} {mg : Str → Option Value} {base : Heap}
theorem ok_tiesX {f fN CP fI : Addr} {fd fdN fdI : FuncData} (F : Fun K "_check_ties" "_check_ties" sTies f fd) (T : TC mg) (DN : DefAt K mg "is_pair" ["value", "names"] sPair fN fdN)
    (GN : FnOk P w K mg base CX0 2 fN fdN ["value", "names"] (spPair K))
    (EC : ErrC K mg "InvalidTies" "index" CP fI) (GI : FnOk P w K mg base CX0 1 fI fdI ["self", "index"] (spErr CP "index")) (bI : Binds K fdI ["self", "index"] []) :
    FnOk P w K mg base (L2N.CX P w) 3 f fd ["ties", "parts"] (spTiesX K CP) := by
  refine okX F scTies (fun vs G Z E h => ?_) (fun cdv A out st G vs Z E hr h => ?_)
  · obtain ⟨v, p, xs, o, rfl, _⟩ := h
    rfl
  · obtain ⟨v, p, xs, o, rfl, hp, ok, tc, right, wrong⟩ := h
    have ru : (cxOf (L2N.CX P w) P w K mg base ["ties", "parts", "at", "tie"] "_check_ties" (defScope sTies) f cdv A out st G E).A.units + 65 < cLine := by
      have := hr.un
      show (A.deeper _).units + 65 < cLine
      omega
    have raise : ∀ {e : Expr} {te : TE} {p1 p2 p3 : Pos}, PE (cxOf (L2N.CX P w) P w K mg base ["ties", "parts", "at", "tie"] "_check_ties" (defScope sTies) f cdv A out st G E) e te →
        starEach [e] (cxOf (L2N.CX P w) P w K mg base ["ties", "parts", "at", "tie"] "_check_ties" (defScope sTies) f cdv A out st G E).env = (false, eval e (cxOf (L2N.CX P w) P w K mg base ["ties", "parts", "at", "tie"] "_check_ties" (defScope sTies) f cdv A out st G E).env) :: starEach [] (cxOf (L2N.CX P w) P w K mg base ["ties", "parts", "at", "tie"] "_check_ties" (defScope sTies) f cdv A out st G E).env →
        PS (cxOf (L2N.CX P w) P w K mg base ["ties", "parts", "at", "tie"] "_check_ties" (defScope sTies) f cdv A out st G E) (.Raise (some (.Call (.Name "InvalidTies" p1) [e] [] p2)) none p3)
          (fun _ sg H => tMkO CP (spErr CP "index") [] (tCons te tNil) sg H fun cls d H' => E cls d H') := fun he hst =>
      L2N.ps_raise rfl takes_cx (pmk_oexN EC.ox EC.iA EC.iT GI (hr.mono (by decide)) bI .nil pass0 (by rfl) EC.mg (pa_cons he pa_nil hst) (he := hst))
    refine ⟨_, pss_cons (ps_if (pt_not (pt_val (pe_callB call_isi (by rfl) T.n.isi boot_isinstance (pa_cons (pv 0) (pa_cons (pe_bltn (v := .ty "tuple") (by rfl) T.tup boot_tuple rfl) pa_nil))))) (pss_one (raise pe_non rfl)) pss_nil)
      (pss_one (ps_for (passes_of rfl) rfl (pi_enumT (by rfl) T.enm (pa_cons (pv 0) pa_nil)) (pg_tup rfl (pgs_cons (pg_name (i := 2) scTies.nd rfl (Or.inl rfl)) (pgs_cons (pg_name (i := 3) scTies.nd rfl (Or.inl rfl)) pgs_nil)))
        (pss_one (ps_if (PW.pt (pw_or (pt_not (pt_val (pe_call GN hr rfl DN.gl DN.kp DN.bd .nil pass0 (pa_cons (pv 3) (pa_cons (pv 1) pa_nil)))))
          (pw_or1 (pt_cmpR (op_inT ru) (pv 3) (pe_slice sl_tupA (pv 0) po_none (po_some (pv 2))) rfl)))) (pss_one (raise (pv 2) rfl)) pss_nil)))), ?_⟩
    have err : ∀ {x : V} {H : Hp}, o = some x → Same G H → [x].length ≤ 1000 ∧ ∀ a, H a = none → spErr CP "index" (.ref a :: ([x] ++ [])) (upd H a (exo a CP none)) (fun u H2 => u = .non ∧ ∃ (d : Addr) (fs : List (Str × V)), H2 a = some (exo a CP (some d)) ∧ H2 d = some (exd d fs) ∧ H d = none ∧
        (fun cls d H' => E cls d H') (.ref CP) (some d) (upd (del H2 a) d (.xd fs))) (fun _ _ _ => False) := fun {x H} eo s => err_made (Q := fun cls d H' => E cls d H') fun d G' s' ed => wrong x eo d G' (s.trans s') ed
    cases tc with
    | other t ty k eo =>
      exact ⟨_, rfl, _, _, _, _, false, rfl, .ty _, ty, k, _, rfl, iteT (err eo (Same.refl G))⟩
    | tup q I ev hq each few eo =>
      subst ev
      refine ⟨_, rfl, _, _, _, _, true, rfl, .ty _, tyT hq, kit_ty (by decide +kernel), _, rfl, iteF ?_⟩
      refine ⟨_, rfl, q, _, rfl, hq, for_it walk_enumT (fun i σ G' => ∃ v1 v2, σ = [some (.ref q), some (.ref p), v1, v2] ∧ Same G G' ∧ ∀ j < i, badT I j = false) ⟨_, _, rfl, Same.refl G, fun j hj => absurd hj (Nat.not_lt_zero j)⟩ (fun i σ G' _ ⟨_, _, _, s, _⟩ => Evl.ex_t s hq) ?_ ?_⟩
      · rintro i x σ G1 G2 hi ⟨v1, v2, rfl, s1, before⟩ ⟨r, y1, y2, rfl, hr1, rfl, e2, e3⟩
        obtain rfl : y1 = V.int (i : Nat) := (Option.some.inj e2).symm
        rw [List.length_map] at hi
        have at_ : I[i]? = some I[i] := List.getElem?_eq_getElem hi
        obtain rfl : y2 = I[i].1 := by
          have e4 : (I.map (·.1))[i]? = some y2 := e3
          rw [List.getElem?_map, at_] at e4
          exact (Option.some.inj e4).symm
        have mem := List.getElem_mem hi
        have s2 : Same G (upd G1 r (.tup [.int (i : Nat), I[i].1])) := s1.new hr1
        have it := (each _ mem).ext (ExtN.of s2)
        have gd : (I.map (·.2)).getD i none = I[i].2 := by
          rw [List.getD_eq_getElem?_getD, List.getElem?_map, at_]
          rfl
        have due : badT I i = true → o = some (.int (i : Nat)) := fun b => by
          rw [eo]
          unfold tiesDue
          rw [firstT_at hi before b]
          rfl
        refine ⟨r, _, rfl, SqT.of upd_same, rfl, _, _, rfl, _, _, rfl, rfl, _, rfl, _, rfl, _, p, xs, rfl, Evl.ex_t s2 hp, ?_⟩
        cases ei : I[i].2 with
        | none =>
          rw [ei] at it gd
          have bad : badT I i = true := by
            unfold badT
            rw [gd]
          cases it with
          | no t ty k q => exact .inl ⟨t, ty, k, _, rfl, iteT ⟨_, rfl, err (due bad) s2⟩⟩
          | len a zs ev h n q => exact .inr ⟨a, zs, ev, h, .inl ⟨n, _, rfl, iteT ⟨_, rfl, err (due bad) s2⟩⟩⟩
          | pair a v1 v2 d1 d2 ev h s1 s2' p1 p2 f1 f2 q =>
            refine .inr ⟨a, _, ev, h, .inr ⟨v1, v2, rfl, s1, s2', _, rfl, ?_⟩⟩
            rw [names_among, ← q]
            exact iteT ⟨_, rfl, err (due bad) s2⟩
        | some e =>
          rw [ei] at it gd
          obtain ⟨a, ea, ha, m1, m2, ne⟩ := it.good
          obtain ⟨L, l1, l2, rds, sq⟩ := goods (Nat.le_of_lt hi) each before
          have n1 := ok.2.2.2 _ m1
          have n2 := ok.2.2.2 _ m2
          refine .inr ⟨a, _, ea, ha, .inr ⟨_, _, rfl, .inl ⟨_, rfl, Nat.le_trans (name_small n1) (by decide)⟩, .inl ⟨_, rfl, Nat.le_trans (name_small n2) (by decide)⟩, _, rfl, ?_⟩⟩
          have tr : (amongV (.str e.1) xs && (amongV (.str e.2) xs && !decide (V.str e.1 = V.str e.2))) = true := by
            rw [names_among]
            show (if e.1 ∈ xs ∧ e.2 ∈ xs ∧ e.1 ≠ e.2 then some (e.1, e.2) else none).isSome = true
            rw [if_pos ⟨m1, m2, ne⟩]
            rfl
          rw [tr]
          refine iteF ⟨_, rfl, _, rfl, _, rfl, _, rfl, ?_⟩
          refine sl_take (Evl.ex_t s2 hq) (by rw [List.length_map]; omega) fun u G4 s4 hu => ?_
          rw [← List.map_take, l1] at hu
          have s24 := s2.trans s4
          have hu4 : TiesAt K G4 u L := ⟨hu, fun t ht => Evl.ex_t s24 (sq t ht)⟩
          have lay := roads_lay ok rds
          have layE : (tieD e).canLay0 = true := tieD_lay (name_lay n1) (name_lay n2)
          refine ⟨tieD e, _, by rw [ea]; exact dp_tie (Evl.ex_t s4 ha), hu4.dp, tieD_shaped layE, tieDs_shaped lay, _, rfl, ?_⟩
          rw [any_tie]
          have same : decide (e ∈ L.map (·.2)) = badT I i := by
            unfold badT
            rw [gd]
            show decide (e ∈ L.map (·.2)) = decide (some e ∈ (I.map (·.2)).take i)
            rw [decide_eq_decide, ← List.map_take, l2]
            constructor
            · intro h
              obtain ⟨t, ht, q⟩ := List.mem_map.mp h
              exact List.mem_map.mpr ⟨t, ht, by rw [q]⟩
            · intro h
              obtain ⟨t, ht, q⟩ := List.mem_map.mp h
              exact List.mem_map.mpr ⟨t, ht, Option.some.inj q⟩
          rw [same]
          cases c : badT I i with
          | true => exact iteT ⟨_, rfl, err (due c) s24⟩
          | false =>
            refine iteF ⟨_, _, rfl, s24, fun j hj => ?_⟩
            rcases Nat.lt_or_ge j i with lt | ge
            · exact before j lt
            · obtain rfl : j = i := by omega
              exact c
      · rintro σ G1 ⟨v1, v2, rfl, s1, before⟩
        refine right ?_ _ s1
        rw [eo]
        unfold tiesDue
        cases c : firstT I with
        | none => rfl
        | some i =>
          obtain ⟨h1, h2⟩ := firstT_some c
          rw [before i (by rw [List.length_map]; exact h1)] at h2
          cases h2
end
end Fs

namespace Fs
open PySem PySem.Spec PyProof.Rows L2 LamX NdefX
section
variable {P : Program} {w : World} {K : PySem.W.Frag} {mg : Str → Option Value} {base : Heap} {n : Nat} {f : Addr} {fd : FuncData} {ps : List Str} {sp : Sp}
/-- a def's promise, its code object told -/
theorem FnG.mkC {x qual : Str} {d : Stmt} {N : List Str} (F : Fun K x qual d f fd) (S : FnScope N ps (defScope d))
    (len : ∀ vs G Z E, sp vs G Z E → vs.length = ps.length)
    (body : ∀ (A : Around) (out : List Env) (st : Shared) (G : Hp) (vs : List V) (Z : VK) (E : XK),
      Room n (A.deeper (envOfC qual (defScope d) st.heap.objs.size f fd.code)) → A.guards = some [] → sp vs G Z E →
        ∃ t, PSs (cxOf CX0 P w K mg base N qual (defScope d) f fd.code A out st G E).nox (defBody d) t ∧
          t { nx := fun _ G' => Z .non G', rt := Z } (start N vs) G) :
    FnG P w K mg base CX0 (n + 1) f fd ps sp := by
  obtain ⟨oc, od, kV, doc, pm, an, cdv, ct, osl, rfl, at_, code⟩ := F.ex
  refine ⟨len, fun A out st G args us vs Z E room gs env bind rel want => ?_⟩
  have older : ∀ b o, base.get? b = some o → st.heap.get? b = some o := fun b o q => (env.bs b o q).1
  have inK := env.mod.kin.keeps older
  refine codeAny_call_function room.depth (inK _ _ at_) rfl S.co S.gen rfl (PySem.W.codeRec_of inK code) (bind _ _ _ _ ?_)
  refine wpAny_newFunctionEnv_cells S.kind ?_ fun e0 eq0 st1 made => ?_
  · rintro ⟨nm, v⟩ mem
    exact (S.par nm (List.of_mem_zip mem).1).imp id fun q => ⟨q, PySem.W.cellsFrom_some _ _ _ (.inl q)⟩
  · subst eq0
    refine ⟨(env.mod.nolimit.keeps older).keeps made.toInCall.keep, codeAny_func ?_⟩
    obtain ⟨t, der, good⟩ := body A out st G vs Z E (room.deeper _) gs want
    have start0 := inv_start (CX := CX0) S room.hd env (len _ _ _ _ want) rel made (E := E)
    refine wpAny_mono (der.nox.run [] st1 (start N vs) G _ start0 good) (fun fl st2 fin => ?_) fun _ _ q => q
    cases fl with
    | brk =>
      obtain ⟨_, _, _, no⟩ := fin
      exact no.elim
    | cont =>
      obtain ⟨_, _, _, no⟩ := fin
      exact no.elim
    | next =>
      obtain ⟨sg, G2, J, z⟩ := fin
      exact ⟨.non, G2, J.os, J.bare, J.base, J.hok, rfl, z⟩
    | ret u =>
      obtain ⟨v, sg, G2, J, rv, z⟩ := fin
      exact ⟨v, G2, J.os, J.bare, J.base, J.hok, rv, z⟩
end
/-! ### the end of a law that makes lambdas -/
/-- the script in the ice, and the table D, empty -/
def frozenT (K : PySem.W.Frag) (a : Addr) (o : Obj) (xs : List V) (D : Addr) : Hp := fun b => if b = D then some (.tbl #[]) else frozen K a o xs b
theorem law_endT {P : Program} {w : World} {K : PySem.W.Frag} {mg mb : Str → Option Value} {n : Nat} {fa a c D : Addr} {fd : FuncData} {x : Str} {sp : Sp} {st : Shared} {us : List Value} {is : List Int}
    (inK : K.In st.heap) (nm : st.heap.Ns mainGlobals mg) (nb : st.heap.Ns builtinsNs mb) (bo : ∀ y : Str, y ≠ "__name__" → mb y = bootBuiltins y) (nl : st.heap.NoLimit) (ng : st.gens = #[])
    (hD : st.heap.get? D = some { cls := .none, data := .fields #[] }) (nD : K.lookup D = none) (hC : PySem.W.CodeHd st.heap c D)
    (hbm : ∃ (bm : Addr) (ob : Obj), mg "__builtins__" = some (.ref bm) ∧ bm ≠ builtinsNs ∧ st.heap.get? bm = some ob ∧ ob.cls = .type "module" ∧ ob.dict = some builtinsNs ∧ ob.data = .plain)
    (scr : st.heap.get? a = some { cls := .type "list", data := .seq us.toArray }) (ints0 : IntsAre us is) (small : is.length ≤ sizeLine) (hr : Room n callerA)
    (F : ∀ base : Heap, K.In base → base.Ns mainGlobals mg → TabB base mg c D → FnG P w K mg base CX0 n fa fd [x] sp) (bind : ∀ (s : Shared) (u : Value), BindsTo s fd ⟨[u], []⟩ [(x, u)])
    (want : ∀ G : Hp, G D = some (.tbl #[]) → SqL K G a (is.map V.int) → sp [.ref a] G (fun v _ => v = .bl true) fun _ _ _ => False) :
    codeAny (model P w) callerA (.call (.ref fa) ⟨[.ref a], []⟩) (fun r s' => r = .ok (.ret (.bool true)) ∧ OldK st.heap s'.heap ∧ s'.os = st.os ∧ AllBare s'.gens) st := by
  have rel := vals_ints ints0
  have sz := ints0.length
  let ob : Obj := { cls := .type "list", data := .seq us.toArray }
  let G : Hp := frozenT K a ob (is.map V.int) D
  have aD : a ≠ D := fun e => by
    rw [e, hD] at scr
    have z := congrArg Obj.data (Option.some.inj scr)
    cases z
  have atD : G D = some (.tbl #[]) := if_pos rfl
  have off : ∀ {b : Addr}, b ≠ D → G b = frozen K a ob (is.map V.int) b := fun e => if_neg e
  have seq : SqL K G a (is.map V.int) := by
    cases q : K.lookup a with
    | none => exact .inl (.inr ⟨ob, (off aD).trans (frozen_at q)⟩)
    | some o =>
      have same := inK a o q
      rw [scr] at same
      cases same
      exact .inr ⟨_, us.toArray, _, q, rfl, rfl, rfl, by rw [List.size_toArray, sz]; exact small, by simpa using rel⟩
  have held : HOk P w G st.heap := fun b u h => by
    by_cases e : b = D
    · subst e
      rw [atD] at h
      cases h
      exact hD
    · rw [off e] at h
      obtain ⟨rfl, _, rfl⟩ := frozen_some h
      exact ⟨scr, by rw [List.length_map]; exact small, us, _, rel, scr⟩
  have other : ∀ {b : Addr} {o : Obj}, st.heap.get? b = some o → (∀ vs n, o.data ≠ .seq vs n) → o.data ≠ .fields #[] → G b = none := fun {b o} h d1 d2 => by
    by_cases e : b = D
    · subst e
      rw [hD] at h
      cases h
      exact absurd rfl d2
    · rw [off e]
      cases q : frozen K a ob (is.map V.int) b with
      | none => rfl
      | some u =>
        obtain ⟨rfl, _, _⟩ := frozen_some q
        rw [scr] at h
        cases h
        exact absurd rfl (d1 _ _)
  have nss : ∀ {b : Addr} {m : Str → Option Value}, st.heap.Ns b m → (hidT st.heap G).Ns b m := fun {b m} ⟨o, es, ep, h, d, r⟩ => ⟨o, es, ep, hidT_get h (other h (by rw [d]; nofun) (by rw [d]; nofun)), d, r⟩
  have kin : K.In (hidT st.heap G) := fun b o h => hidT_get (inK b o h) (by
    by_cases e : b = D
    · subst e
      rw [nD] at h
      cases h
    · rw [off e]
      cases q : frozen K a ob (is.map V.int) b with
      | none => rfl
      | some u =>
        obtain ⟨rfl, no, _⟩ := frozen_some q
        rw [no] at h
        cases h)
  have md : Mod K mg (hidT st.heap G) := ⟨kin, nss nm, ⟨mb, nss nb, bo⟩, nl.elim fun mc h => ⟨mc, nss h.1, h.2⟩⟩
  have env : Env0 P w K mg (hidT st.heap G) callerA [] st G :=
    ⟨rfl, md, fun b o h => of_hidT h, Nat.le_of_eq (hidT_size _ _), trivial, fun b h => (List.not_mem_nil h).elim, held, .of_eq ng⟩
  have noG : ∀ {b : Addr} {o : Obj} {es : Array DictEntry} {ep : Nat}, st.heap.get? b = some o → o.data = .dict es ep → b ≠ D := fun {b o es ep} h d e => by
    rw [e, hD] at h
    cases h
    cases d
  have TB : TabB (hidT st.heap G) mg c D := by
    refine ⟨?_, ?_, fun z => ?_⟩
    · obtain ⟨o, vs, file, tf, flags, tg, inF, text, tt, e1, r1, r2, r3, rest⟩ := hC
      refine ⟨o, vs, file, tf, flags, tg, inF, text, tt, hidT_get e1 (other e1 (by rw [r2]; nofun) fun z => ?_), r1, r2, r3, rest⟩
      rw [r2] at z
      cases z
      simp at r3
    · obtain ⟨bm, o, b1, b2, b3, b4, b5, b6⟩ := hbm
      refine ⟨bm, o, b1, b2, fun q => ?_, fun q => ?_, hidT_get b3 (other b3 (by rw [b6]; nofun) (by rw [b6]; nofun)), b4, b5, b6⟩
      · obtain ⟨o2, es, ep, e, d, _⟩ := nm
        rw [q, e] at b3
        cases b3
        rw [d] at b6
        cases b6
      · rw [q, hD] at b3
        cases b3
        cases b6
    · obtain ⟨o, es, ep, e, d, _⟩ := nm
      exact noG e d z
  refine codeAny_mono ((F _ kin (nss nm) TB).run callerA [] st G ⟨[.ref a], []⟩ [.ref a] [.ref a] _ _ hr rfl env (bind st _) (.cons rfl .nil) (want G atD seq)) fun r s' fin => ?_
  cases r with
  | error er => exact fin.elim
  | ok fl =>
    cases fl with
    | next => exact fin.elim
    | brk => exact fin.elim
    | cont => exact fin.elim
    | ret u =>
      obtain ⟨v, G2, os, bare, un, held2, rv, yes⟩ := fin
      obtain rfl : v = V.bl true := yes
      obtain rfl : u = Value.bool true := rv
      obtain ⟨more, tm⟩ := un.tbls D #[] atD
      have grown : s'.heap.get? D = some { cls := .none, data := .fields (#[] ++ more) } := held2 D _ tm
      have keep : ∀ b o, b ≠ D → st.heap.get? b = some o → s'.heap.get? b = some o := fun b o e h => by
        cases q : G b with
        | none => exact un.keep b o h q (fun z => List.not_mem_nil z) List.not_mem_nil
        | some u =>
          have q' := q
          rw [off e] at q'
          obtain ⟨rfl, _, rfl⟩ := frozen_some q'
          have now := (held2 b _ (un.frzs b ob _ q)).1
          rw [scr] at h
          cases h
          exact now
      refine ⟨rfl, ⟨fun b o h => ?_, fun b o h => ?_⟩, os, bare⟩
      · by_cases e : b = D
        · subst e
          rw [hD] at h
          cases h
          exact .inr (.inl ⟨(hC.tab hD).isCodeTable, rfl, #[], more, rfl, grown⟩)
        · exact .inl (keep b o e h)
      · by_cases e : b = D
        · subst e
          exact ⟨_, grown⟩
        · exact ⟨o, keep b o e h⟩
theorem walk_endT {l : PySem.W.OpenLaw} {n m : Nat} {q : Program} {loose : List Str} {XP : (Str → Option Value) → Heap → Prop} {YP : World → Heap → Prop} {d dR : DefRec} {K : Params → PySem.W.Frag} {sp : PySem.W.Frag → Addr → Sp} {x y : Str}
    (hm : l.most = some m) (hm2 : m ≤ sizeLine) (hdf : d.params.defaults = []) (hr : Room n callerA)
    (hY : ∀ (w : World) (h : Heap), YP w h → (K w.params).In h) (hrec : (recsOf q).find? (fun e => e.name == y) = some dR)
    (F : ∀ (w : World) (mg : Str → Option Value) (fa : Addr) (h : Heap), (K w.params).In h → h.Ns mainGlobals mg → mg d.name = some (.ref fa) →
      ∃ (fd : FuncData) (c D : Addr), PySem.W.tabIn (K w.params) y = some (c, D) ∧ (K w.params).lookup D = none ∧ (∀ (s : Shared) (u : Value), BindsTo s fd ⟨[u], []⟩ [(x, u)]) ∧
        ∀ base : Heap, (K w.params).In base → base.Ns mainGlobals mg → TabB base mg c D → FnG l.prog w (K w.params) mg base CX0 n fa fd [x] (sp (K w.params) D))
    (want : ∀ (K : PySem.W.Frag) (D : Addr) (G : Hp) (a : Addr) (is : List Int), is.length ≤ m → G D = some (.tbl #[]) → SqL K G a (is.map V.int) → sp K D [.ref a] G (fun v _ => v = .bl true) fun _ _ _ => False) :
    PySem.W.WalkO q loose XP YP l.row.toRowW d [] (fun f vs => PySem.call f vs) := by
  refine Att.attach_call hm hdf fun w s0 st mg mb fa o pm cd doc a us is gr yy _ _ _ hmg scr ints0 few ng => ?_
  have inK := hY w _ yy
  obtain ⟨fd, c, D, ht, nD, bind, ok⟩ := F w mg fa _ inK gr.T.g hmg
  obtain ⟨hC, hD⟩ := PySem.W.tab_of gr.T inK hrec ht
  exact law_endT inK gr.T.g gr.T.b gr.T.builtins gr.T.nolimit ng hD nD hC gr.T.bmain scr ints0 (Nat.le_trans few hm2) hr ok bind fun G hd h => want _ D G a is few hd h
end Fs

namespace Fs
open PySem PySem.Spec PyProof.Rows L2 LamX NdefX
/-! ### texts of plain signs -/
theorem char_ascii : ∀ q, q = 34 ∨ q = 39 → ∀ c < 128, (Builtin.Str.reprChar q c).all (fun x => decide (x < 128)) = true := by
  rintro q (rfl | rfl)
  · decide +kernel
  · decide +kernel
theorem quote_two (z : Str) : reprQuote z = 34 ∨ reprQuote z = 39 := by
  unfold reprQuote
  split
  · exact .inl rfl
  · exact .inr rfl
theorem fold_ascii {q : Nat} (hq : q = 34 ∨ q = 39) : ∀ (l : List Nat) (acc : Array Nat), (∀ c ∈ l, c < 128) → (∀ c ∈ acc.toList, c < 128) → ∀ c ∈ (l.foldl (fun out c => out ++ (Builtin.Str.reprChar q c).toArray) acc).toList, c < 128
  | [], acc, _, h => h
  | c :: r, acc, hl, h => fold_ascii hq r _ (fun x hx => hl x (List.mem_cons_of_mem _ hx)) fun x hx => by
    rw [Array.toList_append] at hx
    rcases List.mem_append.mp hx with hx | hx
    · exact h x hx
    · exact of_decide_eq_true (List.all_eq_true.mp (char_ascii q hq c (hl c List.mem_cons_self)) x hx)
theorem repr_ascii {z : Str} (h : ∀ c ∈ z.cps.toList, c < 128) : ∀ c ∈ (reprText z).cps.toList, c < 128 := by
  intro c hc
  have hq := quote_two z
  unfold reprText at hc
  rw [Array.toList_push, ← Array.foldl_toList] at hc
  have q128 : reprQuote z < 128 := by rcases hq with q | q <;> rw [q] <;> decide
  rcases List.mem_append.mp hc with hc | hc
  · exact fold_ascii hq _ _ h (fun x hx => by
      have e : x = reprQuote z := List.mem_singleton.mp hx
      rw [e]
      exact q128) c hc
  · have e : c = reprQuote z := List.mem_singleton.mp hc
    rw [e]
    exact q128
theorem shown_ascii {ys : List Str} (h : ∀ z ∈ ys, ∀ c ∈ z.cps.toList, c < 128) : ∀ c ∈ (PyData.tuple (ys.map PyData.str)).shown.cps.toList, c < 128 := by
  intro c hc
  rw [PyData.shown_tuple, PyData.shownAll_strs] at hc
  have hc2 : c ∈ _root_.TL.tl (("(" : Str) ++ Str.join ", " (ys.map reprText) ++ ((if (ys.map PyData.str).length == 1 then ",)" else ")" : String) : Str)) := hc
  rw [_root_.TL.tl_append, _root_.TL.tl_append] at hc2
  rcases List.mem_append.mp hc2 with m | m
  · rcases List.mem_append.mp m with m | m
    · exact sep_ascii (z := "(") (by decide +kernel) c m
    · exact join_ascii (y := ", ") (sep_ascii (by decide +kernel)) (l := ys.map reprText) (fun z hz => by
        obtain ⟨y, hy, rfl⟩ := List.mem_map.mp hz
        exact repr_ascii (h y hy)) c (by rw [_root_.TL.join_eq]; exact m)
  · split at m
    · exact sep_ascii (z := ",)") (by decide +kernel) c m
    · exact sep_ascii (z := ")") (by decide +kernel) c m
end Fs

namespace Fs
open PySem PySem.Spec PyProof.Rows L2
/-! ### == and != from both sides -/
def bothOwn (K : PySem.W.Frag) (C : Addr) (sp : Sp) (E : XK) (neg : Bool) : R2 := fun p q G Z => eqOwn K C sp E neg p q G Z ∨ backOwn K C sp E neg p q G Z
theorem op_both {X : Cx} {c : CmpOp} {C : Addr} {sp : Sp} {E : XK} {neg : Bool} (a : OpR X (compareOp c) (eqOwn X.K C sp E neg)) (b : OpR X (compareOp c) (backOwn X.K C sp E neg)) : OpR X (compareOp c) (bothOwn X.K C sp E neg) := by
  intro pn st sg G p q vp vq Z J rp rq h
  rcases h with h | h
  · exact a pn st sg G p q vp vq Z J rp rq h
  · exact b pn st sg G p q vp vq Z J rp rq h
/-- a value that is no works -/
def Other (K : PySem.W.Frag) (C : Addr) (G : Hp) (v : V) : Prop := Odd K G v ∧ ∃ t, TyX K G v t ∧ PySem.W.kitOne K t (.ref C) = some false ∧ PySem.W.notFirst K C t = true
def spPairR (K : PySem.W.Frag) (C : Addr) : Sp := fun vs G Z _ => ∃ x p q xs L v d, vs = [.ref x, v, .bl d] ∧ WorksAt K C G x p q xs L ∧
  ((Other K C G v ∧ d = false) ∨ ∃ y r s ys M, v = .ref y ∧ WorksAt K C G y r s ys M ∧ d = decide (xs = ys ∧ (L.map fun t : Tie => t.2) = M.map fun t : Tie => t.2)) ∧ ∀ G', Same G G' → Z (.bl true) G'
def fourD (d : Bool) : PyData := .list [.bool d, .bool d, .bool !d, .bool !d]
theorem fine_four (d : Bool) : Fine (fourD d) 1 10 := (FineAll.cons (Fine.bool d) (FineAll.cons (Fine.bool d) (FineAll.cons (Fine.bool !d) (FineAll.cons (Fine.bool !d) FineAll.nil)))).list.mono (by decide) (by decide)
theorem dpB {K : PySem.W.Frag} {G : Hp} {b c : Bool} (h : b = c) : Dp K G (.bl b) (.bool c) := h ▸ .bl b
theorem dp_four {K : PySem.W.Frag} {G : Hp} {k : Addr} {b1 b2 b3 b4 d : Bool} (e : G k = some (.lst [.bl b1, .bl b2, .bl b3, .bl b4])) (h1 : b1 = d) (h2 : b2 = d) (h3 : b3 = !d) (h4 : b4 = !d) : Dp K G (.ref k) (fourD d) :=
  .lst (SqL.of e) (.cons (dpB h1) (.cons (dpB h2) (.cons (dpB h3) (.cons (dpB h4) .nil))))
end Fs

namespace Fs
open PySem PySem.Spec PyProof.Rows L2 LamX NdefX
theorem same_ice {G' H : Hp} {L : List (Addr × Obj)} (i : Iced G' L) (s : Same (thaw G' L) H) : Same G' (ice H L) := fun b u q => by
  cases c : L.lookup b with
  | some o =>
    have z := i b o c
    rw [q] at z
    cases z
    exact ice_in c
  | none => exact (ice_out c).trans (s b u ((thaw_out c).trans q))
theorem cat_any {K : PySem.W.Frag} {G : Hp} {a b : Addr} {xs ys : List V} {Z : VK} (ha : SqT K G a xs) (hb : SqT K G b ys) (few : xs.length + ys.length ≤ sizeLine) (k : ∀ p G', Same G G' → SqT K G' p (xs ++ ys) → Z (.ref p) G') : rCatA K (.ref a) (.ref b) G Z :=
  ⟨a, b, xs, ys, rfl, rfl, ha, hb, few, fun e => k b G (Same.refl G) (by rw [e]; exact hb), fun _ e => k a G (Same.refl G) (by rw [e, List.append_nil]; exact ha),
    fun _ _ p hp => k p _ ((Same.refl G).new hp) (SqT.of upd_same)⟩
theorem sl_from {K : PySem.W.Frag} {G : Hp} {a : Addr} {xs : List V} {i : Nat} {Z : VK} (h : SqT K G a xs) (hi : i ≤ xs.length)
    (k : ∀ p G', Same G G' → SqT K G' p (xs.drop i) → Z (.ref p) G') : rSlA K (.ref a) (some (i : Int)) none G Z := by
  have e1 : HT.sIx xs.length 0 (some (i : Int)) = i := by
    rw [HT.sIx_nat]
    exact Nat.min_eq_left hi
  have e2 : cutV xs (some (i : Int)) none = xs.drop i := by
    unfold cutV
    rw [e1, HT.sIx_none]
    exact List.take_of_length_le (by rw [List.length_drop]; exact Nat.le_refl _)
  refine ⟨a, xs, rfl, h, fun q => ?_, fun _ p hp => ?_⟩
  · have zero : i = 0 := e1.symm.trans q.1
    refine k a G (Same.refl G) ?_
    rw [zero, List.drop_zero]
    exact h
  · refine k p _ ((Same.refl G).new hp) (SqT.of ?_)
    rw [upd_same, e2]
/-- all but j and the tables stay -/
def ExtJ (j : Addr) (G G' : Hp) : Prop := ∀ b o, b ≠ j → G b = some o → (∀ ps, o ≠ .tbl ps) → G' b = some o
theorem ExtJ.grow {j : Addr} {G G' G'' : Hp} (e : ExtJ j G G') (g : Grow j G' G'') : ExtJ j G G'' := fun b o n q t => g b o n (e b o n q t)
theorem ExtJ.ext {j : Addr} {G G' G'' : Hp} (e : ExtJ j G G') (x : ExtN G' G'') : ExtJ j G G'' := fun b o n q t => x b o (e b o n q t) t
theorem sqT_grow {K : PySem.W.Frag} {j p : Addr} {G G' : Hp} {xs : List V} (hj : Jug G j) (g : Grow j G G') (h : SqT K G p xs) : SqT K G' p xs := by
  obtain ⟨a, b, c, e, _⟩ := hj
  rcases h with (h | ⟨o, h⟩) | h
  · refine .inl (.inl (g _ _ (fun z => ?_) h))
    rw [z, e] at h
    cases h
  · refine .inl (.inr ⟨o, g _ _ (fun z => ?_) h⟩)
    rw [z, e] at h
    cases h
  · exact .inr h
theorem viaT {t : TS} {D : Ends} {sg : L2.St} {G : Hp} (Pr : L2.St → Hp → Prop) (h1 : ∀ N : L2.St → Hp → Prop, (∀ sg' G', Pr sg' G' → N sg' G') → t { D with nx := N } sg G) (h2 : ∀ sg' G', Pr sg' G' → D.nx sg' G') : t D sg G := h1 D.nx h2
theorem same_twice {G : Hp} {e : Addr} {o1 o2 : HO} (n : G e = none) : Same G (upd (upd G e o1) e o2) := fun b u q => by
  have ne := ne_of_none q n
  exact (upd_ne ne).trans ((upd_ne ne).trans q)
theorem ice_call {P : Program} {w : World} {K : PySem.W.Frag} {mg : Str → Option Value} {base : Heap} {c : ECls} {n : Nat} {G : Hp} {L : List (Addr × Obj)} {fs : List Addr} {A Dd : Addr} {a b : Str} {Z : VK} (off : Off G L) (hA : G A = some (.lst (fs.map V.ref))) (few : fs.length ≤ 50)
    (ends : ∀ f ∈ fs, EndsAs P w K mg base c n f (ice G L) a b) (hD : G Dd = some (.lst [.str a, .str b])) (fine : ∃ u, Fine (.list [.str a, .str b]) 2 u) (k : ∀ G', ExtT (ice G L) G' → Z (.bl true) G') :
    spIsEnded P w K mg base c n ([.ref A, .ref Dd] ++ []) (ice G L) Z E0 :=
  ⟨A, Dd, fs, a, b, rfl, SqL.of (off_same off _ _ hA), few, ends, off_same off _ _ hD, fine, k⟩
theorem fine_two {a b : Str} (la : PyData.canLay0 (.str a) = true) (lb : PyData.canLay0 (.str b) = true) : ∃ u, Fine (.list [.str a, .str b]) 2 u :=
  ⟨_, (FineAll.cons ((Fine.str la (Nat.le_refl _)).mono (Nat.le_refl _) (Nat.le_add_right a.length b.length)) (FineAll.cons ((Fine.str lb (Nat.le_refl _)).mono (Nat.le_refl _) (Nat.le_add_left b.length a.length)) FineAll.nil)).list.mono (by decide) (Nat.le_refl _)⟩
def lamT (D : Addr) : List (Addr × Str) := [(D, ("_law_right" : Str) ++ ".<locals>." ++ "<lambda>")]
def spRightD (D : Addr) : Sp := fun vs G Z _ => ∃ j, vs = [.ref j] ∧ Jug G j ∧ Tabs (lamT D) G ∧ ∀ G', Jug G' j → Tabs (lamT D) G' → ExtJ j G G' → Z (.bl true) G'
end Fs

namespace Fs
open PySem PySem.Spec PyProof.Rows L2 LamX NdefX
abbrev sDueT : Stmt := (top 35)
/-- Works(p, v): right parts, and ties that may be refused -/
def spInitY (K : PySem.W.Frag) (C CT : Addr) : Sp := fun vs G Z E => ∃ x dx p xs v o, vs = [.ref x, .ref p, v] ∧ G x = some (.ins C dx []) ∧ SqT K G p (xs.map V.str) ∧ Valid xs ∧ TiesCase K G xs v o ∧
  (o = none → ∃ q, v = .ref q ∧ ∀ G', Grow x G G' → G' x = some (.ins C dx (wf p q)) → Z .non G') ∧
  (∀ y, o = some y → ∀ d G', Same G G' → G' d = some (.xd [("index", y)]) → E (.ref CT) (some d) G')
theorem TiesCase.ref {K : PySem.W.Frag} {G : Hp} {xs : List Str} {v : V} (h : TiesCase K G xs v none) : ∃ q, v = .ref q := by
  cases h with
  | other t ty k e => cases e
  | tup a I ev h each few e => exact ⟨a, ev⟩
section
variable {P : Program} {w : World} {K : PySem.W.Frag} {mg : Str → Option Value} {base : Heap}
theorem ok_initY {f C fA fB CT : Addr} {fd fdA fdB : FuncData} {dvs : List V} (F : FunD K "__init__" "Works.__init__" (defArgs sInit) (defBody sInit) (defScope sInit) dvs [] f fd) (T : TW K mg C)
    (DA : DefAt K mg "_check_parts" ["parts"] sParts fA fdA) (GA : FnOk P w K mg base CX0 2 fA fdA ["parts"] (spParts K))
    (DB : DefAt K mg "_check_ties" ["ties", "parts"] sTies fB fdB) (GB : FnOk P w K mg base (L2N.CX P w) 3 fB fdB ["ties", "parts"] (spTiesX K CT)) :
    FnOk P w K mg base (L2N.CX P w) 4 f fd ["self", "parts", "ties"] (spInitY K C CT) := by
  refine F.ok (CX := L2N.CX P w) scInit (fun vs G Z E h => ?_) (fun cdv A out st G vs Z E hr h => ?_)
  · obtain ⟨x, dx, p, xs, v, o, rfl, _⟩ := h
    rfl
  · obtain ⟨x, dx, p, xs, v, o, rfl, hx, hp, ok, tc, right, wrong⟩ := h
    refine ⟨_, pss_cons (ps_expr (pe_call GA (hr.mono (by decide)) rfl DA.gl DA.kp DA.bd .nil pass0 (pa_cons (pv 1) pa_nil)))
      (pss_cons (ps_expr (pe_call GB hr rfl DB.gl DB.kp DB.bd .nil passes_cx (pa_cons (pv 2) (pa_cons (pv 1) pa_nil))))
      (pss_cons (ps_fld (pv 0) (pv 1) rfl) (pss_one (ps_fld (pv 0) (pv 2) rfl)))), ?_⟩
    refine ⟨_, rfl, p, xs, rfl, hp, ok, fun G1 s1 => ?_⟩
    refine ⟨_, rfl, _, rfl, v, p, xs, o, rfl, Evl.ex_t s1 hp, ok, tc.ext (ExtN.of s1), fun eo G2 s2 => ?_, fun y ey d G' s ed => wrong y ey d G' (s1.trans s) ed⟩
    obtain ⟨q, rfl, fin⟩ := right eo
    have h2 := s2 _ _ (s1 _ _ hx)
    refine ⟨_, rfl, _, rfl, x, C, dx, [], rfl, h2, T.cl, T.nP, (by show 0 < 1000; decide), _, rfl, _, rfl, x, C, dx, _, rfl, upd_same, T.cl, T.nT, (by show 1 < 1000; decide), ?_⟩
    refine fin _ (((Grow.of (s1.trans s2)).at_).at_) ?_
    rw [upd_same]
    rfl
/-- Works(p, v).ties: its ties as they were passed, or the error -/
theorem initY_ok {C CT : Addr} {G : Hp} {p : Addr} {xs : List Str} {v : V} {o : Option V} {Y : Addr → Hp → Prop} {E : XK} (hp : SqT K G p (xs.map V.str)) (ok : Valid xs) (tc : TiesCase K G xs v o)
    (k : o = none → ∀ x dx q G', v = .ref q → Same G G' → G' x = some (.ins C dx (wf p q)) → Y x G') (wrong : ∀ y, o = some y → ∀ d G', Same G G' → G' d = some (.xd [("index", y)]) → E (.ref CT) (some d) G') (x dx : Addr) (nx : G x = none) (nd : G dx = none) (ne : dx ≠ x) :
    spInitY K C CT [.ref x, .ref p, v] (upd (upd G dx (.own x)) x (.ins C dx [])) (fun v H2 => v = .non ∧ Y x H2) E := by
  have s0 : Same G (upd (upd G dx (.own x)) x (.ins C dx [])) := made_same nx nd (Grow.refl x _)
  refine ⟨x, dx, p, xs, v, o, rfl, upd_same, Evl.ex_t s0 hp, ok, tc.ext (ExtN.of s0), fun eo => ?_, fun y ey d G' s ed => wrong y ey d G' (s0.trans s) ed⟩
  subst eo
  obtain ⟨q, rfl⟩ := tc.ref
  exact ⟨q, rfl, fun G' g eg => ⟨rfl, k rfl x dx q G' rfl (made_same nx nd g) eg⟩⟩
/-! ### what the law says is due -/
theorem in_strs {K : PySem.W.Frag} {G : Hp} {v : V} {d : PyData} (h : Dp K G v d) : ∀ xs : List Str, ((xs.map PyData.str).any fun z => PyData.eqv z d) = amongV v xs
  | [] => by cases v <;> rfl
  | x :: r => by
    have ih := in_strs h r
    rw [List.map_cons, List.any_cons, ih]
    cases h with
    | str z =>
      show (PyData.eqv (.str x) (.str z) || decide (z ∈ r)) = decide (z ∈ x :: r)
      have e : PyData.eqv (.str x) (.str z) = (x == z) := by simp only [PyData.eqv]
      rw [e]
      by_cases q : x = z
      · simp [q]
      · have q2 : ¬ z = x := fun z => q z.symm
        simp [q, q2]
    | _ => simp [PyData.eqv, amongV]
def spDueT (K : PySem.W.Frag) : Sp := fun vs G Z _ => ∃ p xs v o, vs = [.ref p, v] ∧ SqT K G p (xs.map V.str) ∧ Valid xs ∧ TiesCase K G xs v o ∧ (o = none → ∀ G', Same G G' → Z .non G') ∧
  (∀ x, o = some x → ∀ G' r, Same G G' → G r = none → G' r = some (.lst [.str "ties", .str (idxE x).shown]) → Z (.ref r) G')
abbrev nDueT : List Str := ["_law_heads_here", "_law_thing", "_law_at", "_law_pair"]
theorem scDueT : FnScope nDueT ["_law_heads_here", "_law_thing"] (defScope sDueT) := ⟨rfl, rfl, rfl, by decide +kernel, rfl, by decide +kernel, by decide +kernel⟩
theorem ok_dueT {f : Addr} {fd : FuncData} (F : Fun K "_law_due" "_law_due" sDueT f fd) (T : TC mg) (rep : mg "repr" = none) (rng : mg "range" = none) :
    FnG P w K mg base CX0 1 f fd ["_law_heads_here", "_law_thing"] (spDueT K) := by
  refine FnG.mk' F scDueT (fun vs G Z E h => ?_) (fun cdv A out st G vs Z E hr gs h => ?_)
  · obtain ⟨p, xs, v, o, rfl, _⟩ := h
    rfl
  · obtain ⟨p, xs, v, o, rfl, hp, ok, tc, right, wrong⟩ := h
    have ru : (cxOf CX0 P w K mg base nDueT "_law_due" (defScope sDueT) f cdv A out st G E).nox.A.units + 65 < cLine := by
      have := hr.un
      show (A.deeper _).units + 65 < cLine
      omega
    have rg : (cxOf CX0 P w K mg base nDueT "_law_due" (defScope sDueT) f cdv A out st G E).nox.A.guards = some [] := gs
    refine ⟨_, (pss_cons (ps_if (pt_not (pt_val (pe_callB call_isi (by rfl) T.n.isi boot_isinstance (pa_cons (pv 1) (pa_cons (pe_bltn (v := .ty "tuple") (by rfl) T.tup boot_tuple rfl) pa_nil))))) (pss_one (ps_ret (pe_lst (pa_cons pe_str (pa_cons pe_str pa_nil))))) pss_nil)
        (pss_cons (ps_for PassesOwn.never rfl (pi_range1 rfl rng (pa_cons (pe_callB call_len_seq (by rfl) T.n.len PySem.boot_len (pa_cons (pv 1) pa_nil)) pa_nil)) (pg_name (i := 2) scDueT.nd rfl (Or.inl rfl))
        (pss_cons (ps_set (i := 3) scDueT.nd rfl (Or.inl rfl) (pe_ix ix_tup (pv 1) (pv 2) (fun _ _ => rfl)))
        (pss_cons (ps_if (PW.pt (pw_or (pt_not (pt_val (pe_callB call_isi (by rfl) T.n.isi boot_isinstance (pa_cons (pv 3) (pa_cons (pe_bltn (v := .ty "tuple") (by rfl) T.tup boot_tuple rfl) pa_nil)))))
            (pw_or (pt_cmpR op_ne (pe_callB call_len_seq (by rfl) T.n.len PySem.boot_len (pa_cons (pv 3) pa_nil)) pe_int (nomark _))
            (pw_or1 (pt_cmpR (op_inT ru) (pv 3) (pe_slice sl_tupA (pv 1) po_none (po_some (pv 2))) rfl)))))
            (pss_one (ps_ret (pe_lst (pa_cons pe_str (pa_cons (pe_callB (call_reprV ru rg) (by rfl) rep boot_repr (pa_cons (pv 2) pa_nil)) pa_nil))))) pss_nil)
        (pss_one (ps_if (PW.pt (pw_or (pt_cmpR (op_notInT ru) (pe_ix ix_tup (pv 3) pe_int (fun _ _ => rfl)) (pv 0) rfl) (pw_or (pt_cmpR (op_notInT ru) (pe_ix ix_tup (pv 3) pe_int (fun _ _ => rfl)) (pv 0) rfl)
            (pw_or1 (pt_cmpR op_eq (pe_ix ix_tup (pv 3) pe_int (fun _ _ => rfl)) (pe_ix ix_tup (pv 3) pe_int (fun _ _ => rfl)) (nomark _))))))
            (pss_one (ps_ret (pe_lst (pa_cons pe_str (pa_cons (pe_callB (call_reprV ru rg) (by rfl) rep boot_repr (pa_cons (pv 2) pa_nil)) pa_nil))))) pss_nil)))))
        (pss_one (ps_ret pe_non)))), ?_⟩
    cases tc with
    | other t ty k eo =>
      exact ⟨_, rfl, _, _, _, _, false, rfl, .ty _, ty, k, _, rfl, iteT ⟨by show 2 ≤ sizeLine; decide, fun r hr' => wrong _ eo _ r ((Same.refl G).new hr') hr' upd_same⟩⟩
    | tup q I ev hq each few eo =>
      subst ev
      refine ⟨_, rfl, _, _, _, _, true, rfl, .ty _, tyT hq, kit_ty (by decide +kernel), _, rfl, iteF ⟨_, rfl, q, _, rfl, .inr hq, _, rfl, by omega, by rw [List.length_map]; omega, ?_⟩⟩
      have told : ∀ {i : Nat} {H : Hp}, o = some (.int (i : Nat)) → Same G H → reprV K [.int (0 + (i : Int))] H (fun x H1 => tNil [some (.ref p), some (.ref q), some (.int (0 + (i : Int))), none] H1 fun xs H2 => (.str "ties" :: x :: xs).length ≤ sizeLine ∧ ∀ r, H2 r = none → Z (.ref r) (upd H2 r (.lst (.str "ties" :: x :: xs)))) := fun {i H} e s => by
        have sh := idxE_shows (K := K) (G := H) (TiesCase.idx (K := K) (G := G) (xs := xs) (v := .ref q) (o := o) (.tup q I rfl hq each few eo) _ e)
        rw [show (0 : Int) + (i : Int) = ((i : Nat) : Int) by omega]
        exact ⟨_, _, rfl, sh.dp, sh.fine.sho, sh.fine.shaped (by decide), sh.fine.fits (by decide) (by decide), sh.num, by show 2 ≤ sizeLine; decide, fun r hr' => wrong _ e _ r (s.new hr') (s.free hr') upd_same⟩
      refine for_range (lo := 0) (n := ((I.map (·.1)).length : Int).toNat) (fun i σ G' => ∃ v2 v3, σ = [some (.ref p), some (.ref q), v2, v3] ∧ Same G G' ∧ ∀ j < i, badT I j = false) ⟨_, _, rfl, Same.refl G, fun j hj => absurd hj (Nat.not_lt_zero j)⟩ ?_ ?_
      · rintro i σ G1 hi ⟨v2, v3, rfl, s1, before⟩
        rw [List.length_map] at hi
        have hi' : i < I.length := by omega
        have at_ : I[i]? = some I[i] := List.getElem?_eq_getElem hi'
        have mem := List.getElem_mem hi'
        have it := (each _ mem).ext (ExtN.of s1)
        have gd : (I.map (·.2)).getD i none = I[i].2 := by
          rw [List.getD_eq_getElem?_getD, List.getElem?_map, at_]
          rfl
        have ati : atI (I.map (·.1)) (0 + (i : Int)) = some I[i].1 := by
          rw [show (0 : Int) + (i : Int) = ((i : Nat) : Int) by omega]
          exact atI_nat (by rw [List.getElem?_map, at_]; rfl)
        have hq1 := Evl.ex_t s1 hq
        have hp1 := Evl.ex_t s1 hp
        have due : badT I i = true → o = some (.int (i : Nat)) := fun b => by
          rw [eo]
          unfold tiesDue
          rw [firstT_at hi' before b]
          rfl
        refine ⟨_, rfl, _, rfl, q, _, _, _, rfl, rfl, hq1, ati, ?_⟩
        generalize ey : I[i].1 = y at it ⊢
        generalize ee : I[i].2 = e at it gd
        have noneBad : e = none → badT I i = true := fun q => by
          unfold badT
          rw [gd, q]
        cases it with
        | no t ty k q => exact ⟨_, rfl, _, _, _, _, false, rfl, .ty _, ty, k, _, rfl, iteT ⟨_, rfl, told (due (noneBad q)) s1⟩⟩
        | len a zs ev h n q =>
          subst ev
          refine ⟨_, rfl, _, _, _, _, true, rfl, .ty _, tyT h, kit_ty (by decide +kernel), _, rfl, iteF ⟨_, rfl, a, _, rfl, .inr h, rfl, _, rfl, ?_⟩⟩
          have ne : ¬ (V.int (zs.length : Int) = V.int 2) := fun q => by
            have q' : (zs.length : Int) = 2 := V.int.inj q
            omega
          show if (!decide (V.int (zs.length : Int) = V.int 2)) = true then _ else _
          rw [decide_eq_false ne]
          exact iteT ⟨_, rfl, told (due (noneBad q)) s1⟩
        | pair a v1 v2 d1 d2 ev h b1 b2 p1 p2 f1 f2 qe =>
          subst ev
          refine ⟨_, rfl, _, _, _, _, true, rfl, .ty _, tyT h, kit_ty (by decide +kernel), _, rfl, iteF ⟨_, rfl, a, _, rfl, .inr h, rfl, _, rfl, iteF ?_⟩⟩
          obtain ⟨L, l1, l2, rds, sq⟩ := goods (Nat.le_of_lt hi') each before
          refine ⟨_, rfl, _, rfl, _, rfl, _, rfl, ?_⟩
          have cut : rSlA K (.ref q) none (some (0 + (i : Int))) G1 = rSlA K (.ref q) none (some ((i : Nat) : Int)) G1 := by rw [show (0 : Int) + (i : Int) = ((i : Nat) : Int) by omega]
          show rSlA K (.ref q) none (some (0 + (i : Int))) G1 _
          rw [cut]
          refine sl_take hq1 (by rw [List.length_map]; omega) fun u G4 s4 hu => ?_
          rw [← List.map_take, l1] at hu
          have s14 := s1.trans s4
          have hu4 : TiesAt K G4 u L := ⟨hu, fun t ht => Evl.ex_t s14 (sq t ht)⟩
          have lay := roads_lay ok rds
          have x4 := ExtN.of s4
          have h4 := Evl.ex_t s4 h
          have q1 := dp_ext x4 p1
          have q2 := dp_ext x4 p2
          have hp4 := Evl.ex_t s4 hp1
          have fine2 := (FineAll.cons f1 (FineAll.cons f2 FineAll.nil)).tup
          refine ⟨.tuple [d1, d2], _, .tup h4 (.cons q1 (.cons q2 .nil)), hu4.dp, fine2.shaped (by decide), tieDs_shaped lay, _, rfl, ?_⟩
          have fx := (fine_names ok (fun _ m => m) ok.2.1).shaped (by decide)
          have anyB : ∀ nm, e = some nm → (((L.map (·.2)).map tieD).any fun z => PyData.eqv z (.tuple [d1, d2])) = badT I i := fun nm q => by
            obtain ⟨rfl, rfl, _⟩ := names_some (qe.symm.trans q)
            cases p1
            cases p2
            show (((L.map (·.2)).map tieD).any fun z => PyData.eqv z (tieD nm)) = _
            rw [any_tie]
            unfold badT
            rw [gd, q]
            show decide (nm ∈ L.map (·.2)) = decide (some nm ∈ (I.map (·.2)).take i)
            rw [decide_eq_decide, ← List.map_take, l2]
            constructor
            · intro h
              obtain ⟨t, ht, q⟩ := List.mem_map.mp h
              exact List.mem_map.mpr ⟨t, ht, by rw [q]⟩
            · intro h
              obtain ⟨t, ht, q⟩ := List.mem_map.mp h
              exact List.mem_map.mpr ⟨t, ht, Option.some.inj q⟩
          have na := names_among (xs := xs) (v1 := v1) (v2 := v2)
          rw [← qe] at na
          have bad0 : (amongV v1 xs && (amongV v2 xs && !decide (v1 = v2))) = false → badT I i = true := fun z => by
            rw [z] at na
            cases e with
            | none => exact noneBad rfl
            | some nm => cases na
          cases b : (((L.map (·.2)).map tieD).any fun z => PyData.eqv z (.tuple [d1, d2])) with
          | true =>
            refine iteT ⟨_, rfl, told (due ?_) s14⟩
            cases e with
            | none => exact noneBad rfl
            | some nm => exact (anyB nm rfl).symm.trans b
          | false =>
            refine iteF ⟨_, rfl, a, _, 0, _, rfl, rfl, h4, rfl, _, rfl, d1, _, q1, .tup hp4 (dp_strs xs), f1.shaped (by decide), fx, _, rfl, ?_⟩
            rw [in_strs q1 xs]
            cases c1 : amongV v1 xs with
            | false => exact iteT ⟨_, rfl, told (due (bad0 (by rw [c1]; rfl))) s14⟩
            | true =>
              refine iteF ⟨_, rfl, a, _, 1, _, rfl, rfl, h4, rfl, _, rfl, d2, _, q2, .tup hp4 (dp_strs xs), f2.shaped (by decide), fx, _, rfl, ?_⟩
              rw [in_strs q2 xs]
              cases c2 : amongV v2 xs with
              | false => exact iteT ⟨_, rfl, told (due (bad0 (by rw [c1, c2]; rfl))) s14⟩
              | true =>
                have t1 : ∃ y, v1 = .str y := by
                  cases v1 with
                  | str y => exact ⟨y, rfl⟩
                  | _ => cases c1
                have t2 : ∃ y, v2 = .str y := by
                  cases v2 with
                  | str y => exact ⟨y, rfl⟩
                  | _ => cases c2
                obtain ⟨y1, rfl⟩ := t1
                obtain ⟨y2, rfl⟩ := t2
                refine iteF ⟨_, rfl, a, _, 0, _, rfl, rfl, h4, rfl, _, rfl, a, _, 1, _, rfl, rfl, h4, rfl, rfl, _, rfl, ?_⟩
                cases c3 : decide (V.str y1 = V.str y2) with
                | true => exact iteT ⟨_, rfl, told (due (bad0 (by rw [c1, c2, c3]; rfl))) s14⟩
                | false =>
                  refine iteF ⟨_, _, rfl, s14, fun j hj => ?_⟩
                  rcases Nat.lt_or_ge j i with lt | ge
                  · exact before j lt
                  · obtain rfl : j = i := by omega
                    rw [c1, c2, c3] at na
                    cases e with
                    | none => cases na
                    | some nm => exact (anyB nm rfl).symm.trans b
      · rintro σ G1 ⟨v2, v3, rfl, s1, before⟩
        refine right ?_ _ s1
        rw [eo]
        unfold tiesDue
        cases c : firstT I with
        | none => rfl
        | some i =>
          obtain ⟨h1, h2⟩ := firstT_some c
          rw [before i (by rw [List.length_map]; omega)] at h2
          cases h2
end
end Fs

namespace Fs
open PySem PySem.Spec PyProof.Rows L2 LamX NdefX
abbrev sBentT : Stmt := (top 36)
theorem sl_over {K : PySem.W.Frag} {G : Hp} {a : Addr} {xs : List V} {i : Nat} {Z : VK} (h : SqT K G a xs)
    (k : ∀ p G', Same G G' → SqT K G' p (xs.drop i) → Z (.ref p) G') : rSlA K (.ref a) (some (i : Int)) none G Z := by
  have e1 : HT.sIx xs.length 0 (some (i : Int)) = min i xs.length := by
    rw [HT.sIx_nat]
  have e3 : xs.drop (min i xs.length) = xs.drop i := by
    rcases Nat.le_total i xs.length with le | le
    · rw [Nat.min_eq_left le]
    · rw [Nat.min_eq_right le, List.drop_eq_nil_of_le (Nat.le_refl _), List.drop_eq_nil_of_le le]
  have e2 : cutV xs (some (i : Int)) none = xs.drop i := by
    unfold cutV
    rw [e1, HT.sIx_none, e3]
    exact List.take_of_length_le (by rw [List.length_drop]; omega)
  refine ⟨a, xs, rfl, h, fun q => ?_, fun _ p hp => ?_⟩
  · have zero : min i xs.length = 0 := e1.symm.trans q.1
    refine k a G (Same.refl G) ?_
    rw [← e3, zero, List.drop_zero]
    exact h
  · refine k p _ ((Same.refl G).new hp) (SqT.of ?_)
    rw [upd_same, e2]
theorem delJ {j : Addr} {G G' : Hp} (g : Grow j G G') : ExtN (del G j) (del G' j) := fun b o q _ => by
  by_cases e : b = j
  · subst e
    rw [del_same] at q
    cases q
  · rw [del_ne e] at q ⊢
    exact g b o e q
theorem delOf {j : Addr} {G : Hp} : ExtN (del G j) G := fun b o q _ => by
  by_cases e : b = j
  · subst e
    rw [del_same] at q
    cases q
  · rw [del_ne e] at q
    exact q
theorem delX {j : Addr} {G G' : Hp} (x : ExtJ j G G') : ExtN (del G j) (del G' j) := fun b o q t => by
  by_cases e : b = j
  · subst e
    rw [del_same] at q
    cases q
  · rw [del_ne e] at q ⊢
    exact x b o e q t
theorem atD {j b : Addr} {G : Hp} {o : HO} (ne : b ≠ j) (q : G b = some o) : (del G j) b = some o := (del_ne ne).trans q
def ItemsAt (K : PySem.W.Frag) (G : Hp) (j : Addr) (xs : List Str) (I : List TIt) : Prop := ∀ p ∈ I, TItem K (del G j) xs p.1 p.2
theorem ItemsAt.grow {K : PySem.W.Frag} {G G' : Hp} {j : Addr} {xs : List Str} {I : List TIt} (h : ItemsAt K G j xs I) (g : Grow j G G') : ItemsAt K G' j xs I := fun p hp => (h p hp).ext (delJ g)
theorem ItemsAt.extJ {K : PySem.W.Frag} {G G' : Hp} {j : Addr} {xs : List Str} {I : List TIt} (h : ItemsAt K G j xs I) (g : ExtJ j G G') : ItemsAt K G' j xs I := fun p hp => (h p hp).ext (delX g)
theorem up_ascii : ∀ c < 128, up1 c < 128 := by decide +kernel
theorem upper_lay {z : Str} (h : ∀ c ∈ z.cps.toList, c < 128) : PyData.canLay0 (.str (Txt.upper z)) = true ∧ (Txt.upper z).length = z.length := by
  rw [upper_ascii h]
  refine ⟨ascii_lay fun c hc => ?_, ?_⟩
  · rw [Array.toList_map] at hc
    obtain ⟨d, hd, rfl⟩ := List.mem_map.mp hc
    exact up_ascii d (h d hd)
  · show (z.cps.map up1).size = z.cps.size
    rw [Array.size_map]
def spBentT (K : PySem.W.Frag) : Sp := fun vs G Z _ => ∃ j p q xs I, vs = [.ref j, .ref p, .ref q] ∧ Jug G j ∧ SqT K G p (xs.map V.str) ∧ Valid xs ∧ SqT K G q (I.map (·.1)) ∧ ItemsAt K G j xs I ∧ I.length ≤ 90 ∧
  ∀ G' q' I', SqT K G' q' (I'.map (·.1)) → ItemsAt K G' j xs I' → I'.length ≤ I.length + 1 → Jug G' j → Grow j G G' → Z (.ref q') G'
section
variable {P : Program} {w : World} {K : PySem.W.Frag} {mg : Str → Option Value} {base : Heap}
abbrev nBentT : List Str := ["_law_jug_here", "_law_heads_here", "_law_roads_here", "_law_one", "_law_two", "_law_odds", "_law_at"]
theorem scBentT : FnScope nBentT ["_law_jug_here", "_law_heads_here", "_law_roads_here"] (defScope sBentT) := ⟨rfl, rfl, rfl, by decide +kernel, rfl, by decide +kernel, by decide +kernel⟩
theorem ok_bentT {f fS : Addr} {fd fdS : FuncData} (F : Fun K "_law_bent" "_law_bent" sBentT f fd) (T : TB mg) (DS : DefAt K mg "_law_sip" ["_law_jug_here", "_law_most"] sSip fS fdS) :
    FnOk P w K mg base CX0 2 f fd ["_law_jug_here", "_law_heads_here", "_law_roads_here"] (spBentT K) := by
  have GS : FnOk P w K mg base CX0 1 fS fdS ["_law_jug_here", "_law_most"] spSip := ok_sip DS.fn T
  refine F.ok scBentT (fun vs G Z E h => ?_) (fun cdv A out st G vs Z E hr h => ?_)
  · obtain ⟨j, p, q, xs, I, rfl, _⟩ := h
    rfl
  · obtain ⟨j, p, q, xs, I, rfl, hj, hp, ok, hq, items, few, fin⟩ := h
    refine ⟨_, (pss_cons (ps_par (i := 3) (j := 4) (by rfl) scBentT.nd rfl rfl (by decide) rfl rfl
        (pa_cons (pe_ix ix_tup (pv 1) (pe_call GS hr rfl DS.gl DS.kp DS.bd .nil pass0 (pa_cons (pv 0) (pa_cons (pe_callB call_len_seq (by rfl) T.len PySem.boot_len (pa_cons (pv 1) pa_nil)) pa_nil))) (fun _ _ => rfl))
        (pa_cons (pe_ix ix_tup (pv 1) (pe_call GS hr rfl DS.gl DS.kp DS.bd .nil pass0 (pa_cons (pv 0) (pa_cons (pe_callB call_len_seq (by rfl) T.len PySem.boot_len (pa_cons (pv 1) pa_nil)) pa_nil))) (fun _ _ => rfl)) pa_nil)) (by rfl))
        (pss_cons (ps_set (i := 5) scBentT.nd rfl (Or.inl rfl) (pe_lst (pa_cons pe_non (pa_cons (pe_tup (pa_cons (pv 3) pa_nil)) (pa_cons (pe_tup (pa_cons (pv 3) (pa_cons (pv 4) (pa_cons (pv 3) pa_nil)))) (pa_cons (pe_lst (pa_cons (pv 3) (pa_cons (pv 4) pa_nil)))
          (pa_cons (pe_tup (pa_cons (pv 3) (pa_cons (pv 3) pa_nil))) (pa_cons (pe_tup (pa_cons (pv 3) (pa_cons pe_str pa_nil))) (pa_cons (pe_tup (pa_cons pe_str (pa_cons (pv 4) pa_nil))) pa_nil)))))))))
        (pss_cons (ps_set (i := 5) scBentT.nd rfl (Or.inl rfl) (pe_op op_cat (pv 5) (pe_lst (pa_cons (pe_tup (pa_cons (pv 3) (pa_cons pe_non pa_nil))) (pa_cons (pe_op op_add_str (pv 3) (pv 4)) (pa_cons (pe_tup (pa_cons (pv 3) (pa_cons (pv 4) pa_nil)))
          (pa_cons (pe_tup (pa_cons (pv 4) (pa_cons (pv 3) pa_nil))) (pa_cons (pe_tup (pa_cons (pv 3) (pa_cons pe_int pa_nil))) (pa_cons (pe_tup (pa_cons pe_bl (pa_cons (pv 3) pa_nil)))
          (pa_cons (pe_tup (pa_cons (pe_tup (pa_cons (pv 3) pa_nil)) (pa_cons (pv 4) pa_nil))) pa_nil))))))))))
        (pss_cons (ps_set (i := 5) scBentT.nd rfl (Or.inl rfl) (pe_op op_cat (pv 5) (pe_lst (pa_cons (pe_tup (pa_cons (pv 3) (pa_cons (pe_upper (pv 4)) pa_nil))) (pa_cons pe_int (pa_cons pe_dnewK (pa_cons (pe_tup pa_nil) pa_nil)))))))
        (pss_cons (ps_set (i := 6) scBentT.nd rfl (Or.inl rfl) (pe_call GS hr rfl DS.gl DS.kp DS.bd .nil pass0 (pa_cons (pv 0) (pa_cons (pe_op op_add (pe_callB call_len_seq (by rfl) T.len PySem.boot_len (pa_cons (pv 2) pa_nil)) pe_int) pa_nil))))
        (pss_one (ps_ret (pe_op op_catA (pe_op op_catA (pe_slice sl_tupA (pv 2) po_none (po_some (pv 6))) (pe_tup (pa_cons (pe_ix ix_list (pv 5) (pe_call GS hr rfl DS.gl DS.kp DS.bd .nil pass0 (pa_cons (pv 0) (pa_cons pe_int pa_nil))) (fun _ _ => rfl)) pa_nil)))
          (pe_slice sl_tupA (pv 2) (po_some (pe_op op_add (pv 6) (pe_call GS hr rfl DS.gl DS.kp DS.bd .nil pass0 (pa_cons (pv 0) (pa_cons pe_int pa_nil))))) po_none))))))))), ?_⟩
    have xl : 0 < xs.length := List.length_pos_iff.mpr ok.1
    have x8 := ok.2.1
    have pick : ∀ {r : Int}, 0 ≤ r → r < ((xs.map V.str).length : Int) → ∃ z, atI (xs.map V.str) r = some (.str z) ∧ z ∈ xs := fun {r} h0 h1 => by
      rw [List.length_map] at h1
      obtain ⟨i, rfl⟩ : ∃ i : Nat, r = (i : Int) := ⟨r.toNat, by omega⟩
      have lt : i < xs.length := by omega
      exact ⟨xs[i], atI_nat (by rw [List.getElem?_map, List.getElem?_eq_getElem lt]; rfl), List.getElem_mem lt⟩
    refine ⟨_, rfl, _, rfl, _, rfl, p, _, rfl, .inr hp, j, _, rfl, hj, by rw [List.length_map]; omega, by rw [List.length_map]; omega, fun G1 r1 r10 r11 hj1 g1 => ?_⟩
    obtain ⟨a, aa, ma⟩ := pick r10 r11
    have hp1 := sqT_grow hj g1 hp
    refine ⟨p, _, _, _, rfl, rfl, hp1, aa, _, rfl, _, rfl, _, rfl, p, _, rfl, .inr hp1, j, _, rfl, hj1, by rw [List.length_map]; omega, by rw [List.length_map]; omega, fun G2 r2 r20 r21 hj2 g2 => ?_⟩
    obtain ⟨b, ab, mb⟩ := pick r20 r21
    have hp2 := sqT_grow hj1 g2 hp1
    refine ⟨p, _, _, _, rfl, rfl, hp2, ab, _, _, rfl, ?_⟩
    have na := ok.2.2.2 a ma
    have nb := ok.2.2.2 b mb
    have lenAB : a.length + b.length ≤ sizeLine := Nat.le_of_lt (small1000 (by have := name_small na; have := name_small nb; omega))
    have lenU : b.length ≤ 5592405 := Nat.le_trans (name_small nb) (by decide)
    refine ⟨_, rfl, by show 1 ≤ sizeLine; decide, fun t1 h_t1 => ?_⟩
    have s_t1 : Same G2 (upd G2 t1 (.tup [.str a])) := (Same.refl G2).new h_t1
    have e_t1 : (upd G2 t1 (.tup [.str a])) t1 = some (.tup [.str a]) := upd_same
    have n_t1 : t1 ≠ j := hj2.ne h_t1
    have j_t1 := hj2.same s_t1
    generalize (upd G2 t1 (.tup [.str a])) = G_t1 at s_t1 e_t1 j_t1 ⊢
    refine ⟨_, rfl, _, rfl, _, rfl, by show 3 ≤ sizeLine; decide, fun t2 h_t2 => ?_⟩
    have s_t2 : Same G_t1 (upd G_t1 t2 (.tup [.str a, .str b, .str a])) := (Same.refl G_t1).new h_t2
    have e_t2 : (upd G_t1 t2 (.tup [.str a, .str b, .str a])) t2 = some (.tup [.str a, .str b, .str a]) := upd_same
    have n_t2 : t2 ≠ j := j_t1.ne h_t2
    have j_t2 := j_t1.same s_t2
    generalize (upd G_t1 t2 (.tup [.str a, .str b, .str a])) = G_t2 at s_t2 e_t2 j_t2 ⊢
    refine ⟨_, rfl, _, rfl, by show 2 ≤ sizeLine; decide, fun t3 h_t3 => ?_⟩
    have s_t3 : Same G_t2 (upd G_t2 t3 (.lst [.str a, .str b])) := (Same.refl G_t2).new h_t3
    have e_t3 : (upd G_t2 t3 (.lst [.str a, .str b])) t3 = some (.lst [.str a, .str b]) := upd_same
    have n_t3 : t3 ≠ j := j_t2.ne h_t3
    have j_t3 := j_t2.same s_t3
    generalize (upd G_t2 t3 (.lst [.str a, .str b])) = G_t3 at s_t3 e_t3 j_t3 ⊢
    refine ⟨_, rfl, _, rfl, by show 2 ≤ sizeLine; decide, fun t4 h_t4 => ?_⟩
    have s_t4 : Same G_t3 (upd G_t3 t4 (.tup [.str a, .str a])) := (Same.refl G_t3).new h_t4
    have e_t4 : (upd G_t3 t4 (.tup [.str a, .str a])) t4 = some (.tup [.str a, .str a]) := upd_same
    have n_t4 : t4 ≠ j := j_t3.ne h_t4
    have j_t4 := j_t3.same s_t4
    generalize (upd G_t3 t4 (.tup [.str a, .str a])) = G_t4 at s_t4 e_t4 j_t4 ⊢
    refine ⟨_, rfl, by show 2 ≤ sizeLine; decide, fun t5 h_t5 => ?_⟩
    have s_t5 : Same G_t4 (upd G_t4 t5 (.tup [.str a, .str "nobody"])) := (Same.refl G_t4).new h_t5
    have e_t5 : (upd G_t4 t5 (.tup [.str a, .str "nobody"])) t5 = some (.tup [.str a, .str "nobody"]) := upd_same
    have n_t5 : t5 ≠ j := j_t4.ne h_t5
    have j_t5 := j_t4.same s_t5
    generalize (upd G_t4 t5 (.tup [.str a, .str "nobody"])) = G_t5 at s_t5 e_t5 j_t5 ⊢
    refine ⟨_, rfl, by show 2 ≤ sizeLine; decide, fun t6 h_t6 => ?_⟩
    have s_t6 : Same G_t5 (upd G_t5 t6 (.tup [.str "nobody", .str b])) := (Same.refl G_t5).new h_t6
    have e_t6 : (upd G_t5 t6 (.tup [.str "nobody", .str b])) t6 = some (.tup [.str "nobody", .str b]) := upd_same
    have n_t6 : t6 ≠ j := j_t5.ne h_t6
    have j_t6 := j_t5.same s_t6
    generalize (upd G_t5 t6 (.tup [.str "nobody", .str b])) = G_t6 at s_t6 e_t6 j_t6 ⊢
    refine ⟨by show 7 ≤ sizeLine; decide, fun A1 h_A1 => ?_⟩
    have s_A1 : Same G_t6 (upd G_t6 A1 (.lst [.non, .ref t1, .ref t2, .ref t3, .ref t4, .ref t5, .ref t6])) := (Same.refl G_t6).new h_A1
    have e_A1 : (upd G_t6 A1 (.lst [.non, .ref t1, .ref t2, .ref t3, .ref t4, .ref t5, .ref t6])) A1 = some (.lst [.non, .ref t1, .ref t2, .ref t3, .ref t4, .ref t5, .ref t6]) := upd_same
    have n_A1 : A1 ≠ j := j_t6.ne h_A1
    have j_A1 := j_t6.same s_A1
    generalize (upd G_t6 A1 (.lst [.non, .ref t1, .ref t2, .ref t3, .ref t4, .ref t5, .ref t6])) = G_A1 at s_A1 e_A1 j_A1 ⊢
    refine ⟨_, rfl, _, rfl, by show 2 ≤ sizeLine; decide, fun t7 h_t7 => ?_⟩
    have s_t7 : Same G_A1 (upd G_A1 t7 (.tup [.str a, .non])) := (Same.refl G_A1).new h_t7
    have e_t7 : (upd G_A1 t7 (.tup [.str a, .non])) t7 = some (.tup [.str a, .non]) := upd_same
    have n_t7 : t7 ≠ j := j_A1.ne h_t7
    have j_t7 := j_A1.same s_t7
    generalize (upd G_A1 t7 (.tup [.str a, .non])) = G_t7 at s_t7 e_t7 j_t7 ⊢
    refine ⟨_, rfl, _, rfl, _, _, rfl, rfl, lenAB, _, rfl, _, rfl, by show 2 ≤ sizeLine; decide, fun t8 h_t8 => ?_⟩
    have s_t8 : Same G_t7 (upd G_t7 t8 (.tup [.str a, .str b])) := (Same.refl G_t7).new h_t8
    have e_t8 : (upd G_t7 t8 (.tup [.str a, .str b])) t8 = some (.tup [.str a, .str b]) := upd_same
    have n_t8 : t8 ≠ j := j_t7.ne h_t8
    have j_t8 := j_t7.same s_t8
    generalize (upd G_t7 t8 (.tup [.str a, .str b])) = G_t8 at s_t8 e_t8 j_t8 ⊢
    refine ⟨_, rfl, _, rfl, by show 2 ≤ sizeLine; decide, fun t9 h_t9 => ?_⟩
    have s_t9 : Same G_t8 (upd G_t8 t9 (.tup [.str b, .str a])) := (Same.refl G_t8).new h_t9
    have e_t9 : (upd G_t8 t9 (.tup [.str b, .str a])) t9 = some (.tup [.str b, .str a]) := upd_same
    have n_t9 : t9 ≠ j := j_t8.ne h_t9
    have j_t9 := j_t8.same s_t9
    generalize (upd G_t8 t9 (.tup [.str b, .str a])) = G_t9 at s_t9 e_t9 j_t9 ⊢
    refine ⟨_, rfl, by show 2 ≤ sizeLine; decide, fun ta h_ta => ?_⟩
    have s_ta : Same G_t9 (upd G_t9 ta (.tup [.str a, .int 0])) := (Same.refl G_t9).new h_ta
    have e_ta : (upd G_t9 ta (.tup [.str a, .int 0])) ta = some (.tup [.str a, .int 0]) := upd_same
    have n_ta : ta ≠ j := j_t9.ne h_ta
    have j_ta := j_t9.same s_ta
    generalize (upd G_t9 ta (.tup [.str a, .int 0])) = G_ta at s_ta e_ta j_ta ⊢
    refine ⟨_, rfl, by show 2 ≤ sizeLine; decide, fun tb h_tb => ?_⟩
    have s_tb : Same G_ta (upd G_ta tb (.tup [.bl true, .str a])) := (Same.refl G_ta).new h_tb
    have e_tb : (upd G_ta tb (.tup [.bl true, .str a])) tb = some (.tup [.bl true, .str a]) := upd_same
    have n_tb : tb ≠ j := j_ta.ne h_tb
    have j_tb := j_ta.same s_tb
    generalize (upd G_ta tb (.tup [.bl true, .str a])) = G_tb at s_tb e_tb j_tb ⊢
    refine ⟨_, rfl, by show 1 ≤ sizeLine; decide, fun tc h_tc => ?_⟩
    have s_tc : Same G_tb (upd G_tb tc (.tup [.str a])) := (Same.refl G_tb).new h_tc
    have e_tc : (upd G_tb tc (.tup [.str a])) tc = some (.tup [.str a]) := upd_same
    have n_tc : tc ≠ j := j_tb.ne h_tc
    have j_tc := j_tb.same s_tc
    generalize (upd G_tb tc (.tup [.str a])) = G_tc at s_tc e_tc j_tc ⊢
    refine ⟨_, rfl, by show 2 ≤ sizeLine; decide, fun td h_td => ?_⟩
    have s_td : Same G_tc (upd G_tc td (.tup [.ref tc, .str b])) := (Same.refl G_tc).new h_td
    have e_td : (upd G_tc td (.tup [.ref tc, .str b])) td = some (.tup [.ref tc, .str b]) := upd_same
    have n_td : td ≠ j := j_tc.ne h_td
    have j_td := j_tc.same s_td
    generalize (upd G_tc td (.tup [.ref tc, .str b])) = G_td at s_td e_td j_td ⊢
    refine ⟨by show 7 ≤ sizeLine; decide, fun B1 h_B1 => ?_⟩
    have s_B1 : Same G_td (upd G_td B1 (.lst [.ref t7, .str (a ++ b), .ref t8, .ref t9, .ref ta, .ref tb, .ref td])) := (Same.refl G_td).new h_B1
    have e_B1 : (upd G_td B1 (.lst [.ref t7, .str (a ++ b), .ref t8, .ref t9, .ref ta, .ref tb, .ref td])) B1 = some (.lst [.ref t7, .str (a ++ b), .ref t8, .ref t9, .ref ta, .ref tb, .ref td]) := upd_same
    have n_B1 : B1 ≠ j := j_td.ne h_B1
    have j_B1 := j_td.same s_B1
    generalize (upd G_td B1 (.lst [.ref t7, .str (a ++ b), .ref t8, .ref t9, .ref ta, .ref tb, .ref td])) = G_B1 at s_B1 e_B1 j_B1 ⊢
    refine ⟨A1, B1, _, _, rfl, rfl, (s_B1 _ _ (s_td _ _ (s_tc _ _ (s_tb _ _ (s_ta _ _ (s_t9 _ _ (s_t8 _ _ (s_t7 _ _ e_A1)))))))), e_B1, by show 7 + 7 ≤ sizeLine; decide, fun A2 h_A2 => ?_⟩
    have s_A2 : Same G_B1 (upd G_B1 A2 (.lst ([.non, .ref t1, .ref t2, .ref t3, .ref t4, .ref t5, .ref t6] ++ [.ref t7, .str (a ++ b), .ref t8, .ref t9, .ref ta, .ref tb, .ref td]))) := (Same.refl G_B1).new h_A2
    have e_A2 : (upd G_B1 A2 (.lst ([.non, .ref t1, .ref t2, .ref t3, .ref t4, .ref t5, .ref t6] ++ [.ref t7, .str (a ++ b), .ref t8, .ref t9, .ref ta, .ref tb, .ref td]))) A2 = some (.lst ([.non, .ref t1, .ref t2, .ref t3, .ref t4, .ref t5, .ref t6] ++ [.ref t7, .str (a ++ b), .ref t8, .ref t9, .ref ta, .ref tb, .ref td])) := upd_same
    have n_A2 : A2 ≠ j := j_B1.ne h_A2
    have j_A2 := j_B1.same s_A2
    generalize (upd G_B1 A2 (.lst ([.non, .ref t1, .ref t2, .ref t3, .ref t4, .ref t5, .ref t6] ++ [.ref t7, .str (a ++ b), .ref t8, .ref t9, .ref ta, .ref tb, .ref td]))) = G_A2 at s_A2 e_A2 j_A2 ⊢
    refine ⟨_, rfl, _, rfl, _, rfl, ⟨_, rfl⟩, _, rfl, rfl, lenU, by show 2 ≤ sizeLine; decide, fun te h_te => ?_⟩
    have s_te : Same G_A2 (upd G_A2 te (.tup [.str a, .str (Txt.upper b)])) := (Same.refl G_A2).new h_te
    have e_te : (upd G_A2 te (.tup [.str a, .str (Txt.upper b)])) te = some (.tup [.str a, .str (Txt.upper b)]) := upd_same
    have n_te : te ≠ j := j_A2.ne h_te
    have j_te := j_A2.same s_te
    generalize (upd G_A2 te (.tup [.str a, .str (Txt.upper b)])) = G_te at s_te e_te j_te ⊢
    refine fun dd h_dd => ?_
    have s_dd : Same G_te (upd G_te dd (.dK [])) := (Same.refl G_te).new h_dd
    have e_dd : (upd G_te dd (.dK [])) dd = some (.dK []) := upd_same
    have n_dd : dd ≠ j := j_te.ne h_dd
    have j_dd := j_te.same s_dd
    generalize (upd G_te dd (.dK [])) = G_dd at s_dd e_dd j_dd ⊢
    refine ⟨Nat.zero_le _, fun tf h_tf => ?_⟩
    have s_tf : Same G_dd (upd G_dd tf (.tup [])) := (Same.refl G_dd).new h_tf
    have e_tf : (upd G_dd tf (.tup [])) tf = some (.tup []) := upd_same
    have n_tf : tf ≠ j := j_dd.ne h_tf
    have j_tf := j_dd.same s_tf
    generalize (upd G_dd tf (.tup [])) = G_tf at s_tf e_tf j_tf ⊢
    refine ⟨by show 4 ≤ sizeLine; decide, fun C1 h_C1 => ?_⟩
    have s_C1 : Same G_tf (upd G_tf C1 (.lst [.ref te, .int 5, .ref dd, .ref tf])) := (Same.refl G_tf).new h_C1
    have e_C1 : (upd G_tf C1 (.lst [.ref te, .int 5, .ref dd, .ref tf])) C1 = some (.lst [.ref te, .int 5, .ref dd, .ref tf]) := upd_same
    have n_C1 : C1 ≠ j := j_tf.ne h_C1
    have j_C1 := j_tf.same s_C1
    generalize (upd G_tf C1 (.lst [.ref te, .int 5, .ref dd, .ref tf])) = G_C1 at s_C1 e_C1 j_C1 ⊢
    refine ⟨A2, C1, _, _, rfl, rfl, (s_C1 _ _ (s_tf _ _ (s_dd _ _ (s_te _ _ e_A2)))), e_C1, by show 14 + 4 ≤ sizeLine; decide, fun A3 h_A3 => ?_⟩
    have s_A3 : Same G_C1 (upd G_C1 A3 (.lst (([.non, .ref t1, .ref t2, .ref t3, .ref t4, .ref t5, .ref t6] ++ [.ref t7, .str (a ++ b), .ref t8, .ref t9, .ref ta, .ref tb, .ref td]) ++ [.ref te, .int 5, .ref dd, .ref tf]))) := (Same.refl G_C1).new h_A3
    have e_A3 : (upd G_C1 A3 (.lst (([.non, .ref t1, .ref t2, .ref t3, .ref t4, .ref t5, .ref t6] ++ [.ref t7, .str (a ++ b), .ref t8, .ref t9, .ref ta, .ref tb, .ref td]) ++ [.ref te, .int 5, .ref dd, .ref tf]))) A3 = some (.lst (([.non, .ref t1, .ref t2, .ref t3, .ref t4, .ref t5, .ref t6] ++ [.ref t7, .str (a ++ b), .ref t8, .ref t9, .ref ta, .ref tb, .ref td]) ++ [.ref te, .int 5, .ref dd, .ref tf])) := upd_same
    have n_A3 : A3 ≠ j := j_C1.ne h_A3
    have j_A3 := j_C1.same s_A3
    generalize (upd G_C1 A3 (.lst (([.non, .ref t1, .ref t2, .ref t3, .ref t4, .ref t5, .ref t6] ++ [.ref t7, .str (a ++ b), .ref t8, .ref t9, .ref ta, .ref tb, .ref td]) ++ [.ref te, .int 5, .ref dd, .ref tf]))) = G_A3 at s_A3 e_A3 j_A3 ⊢
    have f_t1 := (s_A3 _ _ (s_C1 _ _ (s_tf _ _ (s_dd _ _ (s_te _ _ (s_A2 _ _ (s_B1 _ _ (s_td _ _ (s_tc _ _ (s_tb _ _ (s_ta _ _ (s_t9 _ _ (s_t8 _ _ (s_t7 _ _ (s_A1 _ _ (s_t6 _ _ (s_t5 _ _ (s_t4 _ _ (s_t3 _ _ (s_t2 _ _ e_t1))))))))))))))))))))
    have f_t2 := (s_A3 _ _ (s_C1 _ _ (s_tf _ _ (s_dd _ _ (s_te _ _ (s_A2 _ _ (s_B1 _ _ (s_td _ _ (s_tc _ _ (s_tb _ _ (s_ta _ _ (s_t9 _ _ (s_t8 _ _ (s_t7 _ _ (s_A1 _ _ (s_t6 _ _ (s_t5 _ _ (s_t4 _ _ (s_t3 _ _ e_t2)))))))))))))))))))
    have f_t3 := (s_A3 _ _ (s_C1 _ _ (s_tf _ _ (s_dd _ _ (s_te _ _ (s_A2 _ _ (s_B1 _ _ (s_td _ _ (s_tc _ _ (s_tb _ _ (s_ta _ _ (s_t9 _ _ (s_t8 _ _ (s_t7 _ _ (s_A1 _ _ (s_t6 _ _ (s_t5 _ _ (s_t4 _ _ e_t3))))))))))))))))))
    have f_t4 := (s_A3 _ _ (s_C1 _ _ (s_tf _ _ (s_dd _ _ (s_te _ _ (s_A2 _ _ (s_B1 _ _ (s_td _ _ (s_tc _ _ (s_tb _ _ (s_ta _ _ (s_t9 _ _ (s_t8 _ _ (s_t7 _ _ (s_A1 _ _ (s_t6 _ _ (s_t5 _ _ e_t4)))))))))))))))))
    have f_t5 := (s_A3 _ _ (s_C1 _ _ (s_tf _ _ (s_dd _ _ (s_te _ _ (s_A2 _ _ (s_B1 _ _ (s_td _ _ (s_tc _ _ (s_tb _ _ (s_ta _ _ (s_t9 _ _ (s_t8 _ _ (s_t7 _ _ (s_A1 _ _ (s_t6 _ _ e_t5))))))))))))))))
    have f_t6 := (s_A3 _ _ (s_C1 _ _ (s_tf _ _ (s_dd _ _ (s_te _ _ (s_A2 _ _ (s_B1 _ _ (s_td _ _ (s_tc _ _ (s_tb _ _ (s_ta _ _ (s_t9 _ _ (s_t8 _ _ (s_t7 _ _ (s_A1 _ _ e_t6)))))))))))))))
    have f_t7 := (s_A3 _ _ (s_C1 _ _ (s_tf _ _ (s_dd _ _ (s_te _ _ (s_A2 _ _ (s_B1 _ _ (s_td _ _ (s_tc _ _ (s_tb _ _ (s_ta _ _ (s_t9 _ _ (s_t8 _ _ e_t7)))))))))))))
    have f_t8 := (s_A3 _ _ (s_C1 _ _ (s_tf _ _ (s_dd _ _ (s_te _ _ (s_A2 _ _ (s_B1 _ _ (s_td _ _ (s_tc _ _ (s_tb _ _ (s_ta _ _ (s_t9 _ _ e_t8))))))))))))
    have f_t9 := (s_A3 _ _ (s_C1 _ _ (s_tf _ _ (s_dd _ _ (s_te _ _ (s_A2 _ _ (s_B1 _ _ (s_td _ _ (s_tc _ _ (s_tb _ _ (s_ta _ _ e_t9)))))))))))
    have f_ta := (s_A3 _ _ (s_C1 _ _ (s_tf _ _ (s_dd _ _ (s_te _ _ (s_A2 _ _ (s_B1 _ _ (s_td _ _ (s_tc _ _ (s_tb _ _ e_ta))))))))))
    have f_tb := (s_A3 _ _ (s_C1 _ _ (s_tf _ _ (s_dd _ _ (s_te _ _ (s_A2 _ _ (s_B1 _ _ (s_td _ _ (s_tc _ _ e_tb)))))))))
    have f_tc := (s_A3 _ _ (s_C1 _ _ (s_tf _ _ (s_dd _ _ (s_te _ _ (s_A2 _ _ (s_B1 _ _ (s_td _ _ e_tc))))))))
    have f_td := (s_A3 _ _ (s_C1 _ _ (s_tf _ _ (s_dd _ _ (s_te _ _ (s_A2 _ _ (s_B1 _ _ e_td)))))))
    have f_te := (s_A3 _ _ (s_C1 _ _ (s_tf _ _ (s_dd _ _ e_te))))
    have f_dd := (s_A3 _ _ (s_C1 _ _ (s_tf _ _ e_dd)))
    have f_tf := (s_A3 _ _ (s_C1 _ _ e_tf))
    have f_A3 := e_A3
    have sAll : Same G2 G_A3 := (Same.trans (Same.trans (Same.trans (Same.trans (Same.trans (Same.trans (Same.trans (Same.trans (Same.trans (Same.trans (Same.trans (Same.trans (Same.trans (Same.trans (Same.trans (Same.trans (Same.trans (Same.trans (Same.trans (Same.trans s_t1 s_t2) s_t3) s_t4) s_t5) s_t6) s_A1) s_t7) s_t8) s_t9) s_ta) s_tb) s_tc) s_td) s_B1) s_A2) s_te) s_dd) s_tf) s_C1) s_A3)
    have g2A : Grow j G G_A3 := ((g1.trans g2)).trans (Grow.of sAll)
    have hq3 := Evl.ex_t sAll (sqT_grow hj1 g2 (sqT_grow hj g1 hq))
    refine ⟨_, rfl, _, rfl, q, _, rfl, .inr hq3, _, _, rfl, rfl, j, _, rfl, j_A3, by omega, by rw [List.length_map]; omega, fun G5 r5 r50 r51 hj5 g5 => ?_⟩
    rw [List.length_map] at r51
    obtain ⟨i, rfl⟩ : ∃ i : Nat, r5 = (i : Int) := ⟨r5.toNat, by omega⟩
    have hq5 := sqT_grow j_A3 g5 hq3
    refine ⟨_, rfl, _, rfl, _, rfl, ?_⟩
    refine sl_take (i := i) hq5 (by rw [List.length_map]; omega) fun u1 G6 s6 hu1 => ?_
    have hj6 := hj5.same s6
    refine ⟨_, rfl, _, rfl, j, 18, rfl, hj6, by decide, by decide, fun G7 r7 r70 r71 hj7 g7 => ?_⟩
    have g37 : Grow j G_A3 G7 := (g5.trans (Grow.of s6)).trans g7
    have odd : ∃ y e, atI (([V.non, .ref t1, .ref t2, .ref t3, .ref t4, .ref t5, .ref t6] ++ [.ref t7, .str (a ++ b), .ref t8, .ref t9, .ref ta, .ref tb, .ref td]) ++ [.ref te, .int 5, .ref dd, .ref tf]) r7 = some y ∧ TItem K (del G7 j) xs y e := by
      have d_t1 := atD n_t1 (g37 _ _ n_t1 f_t1)
      have d_t2 := atD n_t2 (g37 _ _ n_t2 f_t2)
      have d_t3 := atD n_t3 (g37 _ _ n_t3 f_t3)
      have d_t4 := atD n_t4 (g37 _ _ n_t4 f_t4)
      have d_t5 := atD n_t5 (g37 _ _ n_t5 f_t5)
      have d_t6 := atD n_t6 (g37 _ _ n_t6 f_t6)
      have d_t7 := atD n_t7 (g37 _ _ n_t7 f_t7)
      have d_t8 := atD n_t8 (g37 _ _ n_t8 f_t8)
      have d_t9 := atD n_t9 (g37 _ _ n_t9 f_t9)
      have d_ta := atD n_ta (g37 _ _ n_ta f_ta)
      have d_tb := atD n_tb (g37 _ _ n_tb f_tb)
      have d_tc := atD n_tc (g37 _ _ n_tc f_tc)
      have d_td := atD n_td (g37 _ _ n_td f_td)
      have d_te := atD n_te (g37 _ _ n_te f_te)
      have d_dd := atD n_dd (g37 _ _ n_dd f_dd)
      have d_tf := atD n_tf (g37 _ _ n_tf f_tf)
      have la := name_small na
      have lb := name_small nb
      have sa : StrOr K (del G7 j) (.str a) := .inl ⟨a, rfl, by omega⟩
      have sb : StrOr K (del G7 j) (.str b) := .inl ⟨b, rfl, by omega⟩
      have sn : StrOr K (del G7 j) (.str "nobody") := .inl ⟨_, rfl, by decide⟩
      obtain ⟨uy, ul⟩ := upper_lay (name_ascii nb)
      have su : StrOr K (del G7 j) (.str (Txt.upper b)) := .inl ⟨_, rfl, by omega⟩
      have fa : Fine (.str a) 3 1000 := (Fine.str (name_lay na) la).mono (by decide) (by decide)
      have fb : Fine (.str b) 3 1000 := (Fine.str (name_lay nb) lb).mono (by decide) (by decide)
      have fn : Fine (.str "nobody") 3 1000 := (Fine.str (n := 8) (by decide +kernel) (by decide)).mono (by decide) (by decide)
      have fu : Fine (.str (Txt.upper b)) 3 1000 := (Fine.str (n := 8) uy (by omega)).mono (by decide) (by decide)
      have f0 : Fine (.int 0) 3 1000 := (Fine.small (n := 0) (by decide)).mono (by decide) (by decide)
      have ft : Fine (.tuple [.str a]) 3 1000 := (FineAll.cons (Fine.str (name_lay na) la) FineAll.nil).tup.mono (by decide) (by decide)
      have : r7 = 0 ∨ r7 = 1 ∨ r7 = 2 ∨ r7 = 3 ∨ r7 = 4 ∨ r7 = 5 ∨ r7 = 6 ∨ r7 = 7 ∨ r7 = 8 ∨ r7 = 9 ∨ r7 = 10 ∨ r7 = 11 ∨ r7 = 12 ∨ r7 = 13 ∨ r7 = 14 ∨ r7 = 15 ∨ r7 = 16 ∨ r7 = 17 := by omega
      rcases this with rfl | rfl | rfl | rfl | rfl | rfl | rfl | rfl | rfl | rfl | rfl | rfl | rfl | rfl | rfl | rfl | rfl | rfl
      · exact ⟨_, _, rfl, .no _ (.base .non) (kit_ty (by decide +kernel)) rfl⟩
      · exact ⟨_, _, rfl, .len t1 _ rfl (SqT.of d_t1) (by show 1 ≠ 2; decide) rfl⟩
      · exact ⟨_, _, rfl, .len t2 _ rfl (SqT.of d_t2) (by show 3 ≠ 2; decide) rfl⟩
      · exact ⟨_, _, rfl, .no _ (.base (.lst d_t3)) (kit_ty (by decide +kernel)) rfl⟩
      · exact ⟨_, _, rfl, .pair t4 (.str a) (.str a) (.str a) (.str a) rfl (SqT.of d_t4) sa sa (.str _) (.str _) fa fa rfl⟩
      · exact ⟨_, _, rfl, .pair t5 (.str a) (.str "nobody") (.str a) (.str "nobody") rfl (SqT.of d_t5) sa sn (.str _) (.str _) fa fn rfl⟩
      · exact ⟨_, _, rfl, .pair t6 (.str "nobody") (.str b) (.str "nobody") (.str b) rfl (SqT.of d_t6) sn sb (.str _) (.str _) fn fb rfl⟩
      · exact ⟨_, _, rfl, .pair t7 (.str a) (.non) (.str a) (.none) rfl (SqT.of d_t7) sa (.inr ⟨nofun, _, .base .non, kit_ty (by decide +kernel)⟩) (.str _) .non fa (Fine.nought.mono (by decide) (by decide)) rfl⟩
      · exact ⟨_, _, rfl, .no _ (.base (.str _)) (kit_ty (by decide +kernel)) rfl⟩
      · exact ⟨_, _, rfl, .pair t8 (.str a) (.str b) (.str a) (.str b) rfl (SqT.of d_t8) sa sb (.str _) (.str _) fa fb rfl⟩
      · exact ⟨_, _, rfl, .pair t9 (.str b) (.str a) (.str b) (.str a) rfl (SqT.of d_t9) sb sa (.str _) (.str _) fb fa rfl⟩
      · exact ⟨_, _, rfl, .pair ta (.str a) (.int 0) (.str a) (.int 0) rfl (SqT.of d_ta) sa (.inr ⟨nofun, _, .base (.int 0), kit_ty (by decide +kernel)⟩) (.str _) (.int 0) fa f0 rfl⟩
      · exact ⟨_, _, rfl, .pair tb (.bl true) (.str a) (.bool true) (.str a) rfl (SqT.of d_tb) (.inr ⟨nofun, _, .base (.bl true), kit_ty (by decide +kernel)⟩) sa (.bl true) (.str _) ((Fine.bool true).mono (by decide) (by decide)) fa rfl⟩
      · exact ⟨_, _, rfl, .pair td (.ref tc) (.str b) (.tuple [.str a]) (.str b) rfl (SqT.of d_td) (.inr ⟨nofun, _, .base (.tup d_tc), kit_ty (by decide +kernel)⟩) sb (.tup (SqT.of d_tc) (.cons (.str a) .nil)) (.str _) ft fb rfl⟩
      · exact ⟨_, _, rfl, .pair te (.str a) (.str (Txt.upper b)) (.str a) (.str (Txt.upper b)) rfl (SqT.of d_te) sa su (.str _) (.str _) fa fu rfl⟩
      · exact ⟨_, _, rfl, .no _ (.base (.int 5)) (kit_ty (by decide +kernel)) rfl⟩
      · exact ⟨_, _, rfl, .no _ (.base (.dK d_dd)) (kit_ty (by decide +kernel)) rfl⟩
      · exact ⟨_, _, rfl, .len tf _ rfl (SqT.of d_tf) (by show 0 ≠ 2; decide) rfl⟩
    obtain ⟨y, e, ay, it⟩ := odd
    refine ⟨A3, _, _, y, rfl, rfl, SqL.of (g37 _ _ n_A3 f_A3), ay, by show 1 ≤ sizeLine; decide, fun u2 hu2 => ?_⟩
    have s8 : Same G7 (upd G7 u2 (.tup [y])) := (Same.refl G7).new hu2
    have hu1' := Evl.ex_t s8 (sqT_grow hj6 g7 hu1)
    have len1 : ((I.map (·.1)).take i).length + [y].length ≤ sizeLine := Nat.le_of_lt (small1000 (by rw [List.length_take, List.length_map]; simp only [List.length_cons, List.length_nil]; omega))
    refine cat_any hu1' (SqT.of upd_same) len1 fun u3 G9 s9 hu3 => ?_
    have s79 := s8.trans s9
    have hj9 := hj7.same s79
    have hq9 := Evl.ex_t s79 (sqT_grow hj6 g7 (Evl.ex_t s6 hq5))
    refine ⟨_, rfl, _, rfl, _, rfl, j, 2, rfl, hj9, by decide, by decide, fun G10 r10 r100 r101 hj10 g10 => ⟨_, _, rfl, rfl, _, rfl, ?_⟩⟩
    obtain ⟨k, rfl⟩ : ∃ k : Nat, r10 = (k : Int) := ⟨r10.toNat, by omega⟩
    have cut : rSlA K (.ref q) (some ((i : Int) + (k : Int))) none G10 = rSlA K (.ref q) (some ((i + k : Nat) : Int)) none G10 := by rw [show (i : Int) + (k : Int) = ((i + k : Nat) : Int) by omega]
    dsimp only [tNoPart]
    show rSlA K (.ref q) (some ((i : Int) + (k : Int))) none G10 _
    rw [cut]
    refine sl_over (sqT_grow hj9 g10 hq9) fun u4 G11 s11 hu4 => ?_
    have hu3' := Evl.ex_t s11 (sqT_grow hj9 g10 hu3)
    have len2 : ((I.map (·.1)).take i ++ [y]).length + ((I.map (·.1)).drop (i + k)).length ≤ sizeLine := Nat.le_of_lt (small1000 (by rw [List.length_append, List.length_take, List.length_drop, List.length_map]; simp only [List.length_cons, List.length_nil]; omega))
    refine cat_any hu3' hu4 len2 fun u5 G12 s12 hu5 => ?_
    have g712 : Grow j G7 G12 := ((Grow.of s79).trans g10).trans ((Grow.of s11).trans (Grow.of s12))
    have g012 : Grow j G G12 := (g2A.trans g37).trans g712
    refine fin _ u5 (I.take i ++ [(y, e)] ++ I.drop (i + k)) ?_ (fun z hz => ?_) ?_ ((hj10.same s11).same s12) g012
    · have em : (I.take i ++ [(y, e)] ++ I.drop (i + k)).map (·.1) = (I.map (·.1)).take i ++ [y] ++ (I.map (·.1)).drop (i + k) := by
        rw [List.map_append, List.map_append, List.map_take, List.map_drop]
        rfl
      rw [em]
      exact hu5
    · rcases List.mem_append.mp hz with hz | hz
      · rcases List.mem_append.mp hz with hz | hz
        · exact (items z (List.mem_of_mem_take hz)).ext (delJ g012)
        · rw [List.mem_singleton.mp hz]
          exact it.ext (delJ g712)
      · exact (items z (List.mem_of_mem_drop hz)).ext (delJ g012)
    · rw [List.length_append, List.length_append, List.length_take, List.length_drop]
      simp only [List.length_cons, List.length_nil]
      omega
end
end Fs

namespace Fs
open PySem PySem.Spec PyProof.Rows L2 LamX NdefX
theorem tuple_ascii {ds : List PyData} (h : ∀ d ∈ ds, ∀ c ∈ d.shown.cps.toList, c < 128) : ∀ c ∈ (PyData.tuple ds).shown.cps.toList, c < 128 := by
  intro c hc
  rw [PyData.shown_tuple, shownAll_eq_map] at hc
  have hc2 : c ∈ _root_.TL.tl (("(" : Str) ++ Str.join ", " (ds.map PyData.shown) ++ ((if ds.length == 1 then ",)" else ")" : String) : Str)) := hc
  rw [_root_.TL.tl_append, _root_.TL.tl_append] at hc2
  rcases List.mem_append.mp hc2 with m | m
  · rcases List.mem_append.mp m with m | m
    · exact sep_ascii (z := "(") (by decide +kernel) c m
    · exact join_ascii (y := ", ") (sep_ascii (by decide +kernel)) (l := ds.map PyData.shown) (fun z hz => by
        obtain ⟨y, hy, rfl⟩ := List.mem_map.mp hz
        exact h y hy) c (by rw [_root_.TL.join_eq]; exact m)
  · split at m
    · exact sep_ascii (z := ",)") (by decide +kernel) c m
    · exact sep_ascii (z := ")") (by decide +kernel) c m
theorem ties_ascii {xs : List Str} {L : List Tie} (ok : Valid xs) (rds : Roads xs L) : ∀ c ∈ (PyData.tuple ((L.map (·.2)).map tieD)).shown.cps.toList, c < 128 := tuple_ascii fun d hd => by
  obtain ⟨e, he, rfl⟩ := List.mem_map.mp hd
  have rt := rds.right e he
  refine shown_ascii (ys := [e.1, e.2]) fun z hz => ?_
  simp only [List.mem_cons, List.not_mem_nil, or_false] at hz
  rcases hz with rfl | rfl
  · exact name_ascii (ok.2.2.2 _ rt.1)
  · exact name_ascii (ok.2.2.2 _ rt.2)
/-- what the law says is due, as the ending tells it -/
structure DueAsT (K : PySem.W.Frag) (G : Hp) (v : V) (o : Option V) (a b : Str) : Prop where
  right : o = none → a = "told" ∧ ∃ d, Shows K G v d ∧ b = d.shown
  wrong : ∀ y, o = some y → a = "ties" ∧ b = (idxE y).shown
theorem TiesCase.tells {K : PySem.W.Frag} {G : Hp} {xs : List Str} {v : V} (ok : Valid xs) (tc : TiesCase K G xs v none) : ∃ L : List Tie, Roads xs L ∧ Shows K G v (.tuple ((L.map (·.2)).map tieD)) := by
  cases tc with
  | other t ty k e => cases e
  | tup q I ev h each few e =>
    subst ev
    obtain ⟨L, l1, rds, sq⟩ := tdue_none each e.symm
    rw [l1] at h
    exact ⟨L, rds, (TiesAt.mk h sq).dp, (fine_ties ok rds).mono (by decide) (by decide), fun i q => nomatch q⟩
section
variable {P : Program} {w : World} {K : PySem.W.Frag} {mg : Str → Option Value} {base : Heap} {c : ECls}
theorem ends_lamT {CT f p : Addr} {F : NF} {body : Expr} {G : Hp} {L : List (Addr × Obj)} {xs : List Str} {v : V} {o : Option V} {a b : Str} {k : Nat} {fr : List Str} {ws : List (Option V)} (S : NScope fr [] fr F.scope)
    (hb : ∀ pm ctv : Value, bindArgs (PySem.W.kla_fn "<lambda>" F.qual F.params body F.scope F.cl pm (.ref F.c) ctv) ⟨[], []⟩ = pure [])
    (hf : G f = some (LamO f F body)) (hc : G F.c = some (CodeO F.c F.qual)) (I : IceAt (ice G L) F.cl fr ws L) (off : Off G L) (kd : Kind K c CT 4 0) (no : PySem.W.findIn K (.ref CT) "index" = some none)
    (hp : SqT K G p (xs.map V.str)) (tc : TiesCase K G xs v o) (du : DueAsT K G v o a b)
    (hbody : ∀ (A : Around) (out : List Env) (st : Shared) (G0 : Hp) (Z : VK) (E : XK), Room k (A.deeper (envF F f st.heap.objs.size)) → A.guards = some [] → SqT K G0 p (xs.map V.str) → TiesCase K G0 xs v o →
      (o = none → ∀ H, Same G0 H → Z v H) → (∀ y, o = some y → ∀ d H, Same G0 H → H d = some (.xd [("index", y)]) → E (.ref CT) (some d) H) →
      ∃ t, PE (ncx (L2N.CX P w) P w K mg base fr F f A out st G0 E) body t ∧ t (startF fr [] ws) G0 Z) :
    EndsAs P w K mg base c (k + 1) f (ice G L) a b := by
  refine ⟨fun G' Z E => ExtN (ice G L) G' ∧ (∀ v G1, ExtT G' G1 → Told K v a b G1 → Z v G1) ∧ (∀ cls d G1, ExtT G' G1 → Erred K c cls d a b G1 → E cls d G1), ?_, fun G' Z E e h1 h2 => ⟨e, h1, h2⟩⟩
  refine thk_lam S hb (off_same off _ _ hf) (off_same off _ _ hc) I fun A out st G' Z E hr gs e ⟨_, told, failed⟩ => ?_
  have e0 : ExtN G (thaw G' L) := ext_thaw off e
  have i' : Iced G' L := I.iced.later e
  refine hbody A out st (thaw G' L) _ _ hr gs (ext_seqT e0 hp) (tc.ext e0) (fun eo H s of' => ?_) (fun y ey d H s ed of' => ?_)
  · obtain ⟨ea, x, sh, eb⟩ := du.right eo
    exact told _ _ (ExtT.of (same_ice i' s)) ⟨ea, x, sh.later ((e0.trans (ExtN.of s)).trans (ExtN.of (off_same of'))), eb⟩
  · obtain ⟨ea, eb⟩ := du.wrong y ey
    exact failed _ _ _ (ExtT.of (same_ice i' s)) ⟨CT, d, 4, y, idxE y, by decide, kd, rfl, rfl, off_same of' _ _ ed, no, idxE_shows (tc.idx y ey), ea, eb⟩
variable {C CT fI fT tie p : Addr} {fdI fdT : FuncData} {F : NF} {kk : Nat} {p1 p2 p3 p4 p5 p6 p7 : Pos} {xs : List Str}
abbrev lamFr : List Str := ["_law_heads_here", "_law_thing"]
theorem body_pos {f : Addr} {A : Around} {out : List Env} {st : Shared} {G0 : Hp} {Z : VK} {E : XK} {v : V} {o : Option V} (W : TW K mg C) (M : Mk K C fI)
    (GI : FnOk P w K mg base (L2N.CX P w) 4 fI fdI ["self", "parts", "ties"] (spInitY K C CT)) (bI : Binds K fdI ["self", "parts", "ties"] [])
    (hT : PropOf K C "ties" tie fT) (GT : FnOk P w K mg base CX0 1 fT fdT ["self"] (getSp C "_ties")) (bT : Binds K fdT ["self"] [])
    (hgl : F.scope.names.lookup ("Works" : Str) = some .globalImplicit) (hv1 : Vis F.scope "_law_heads_here") (hv2 : Vis F.scope "_law_thing") (hr : Room 5 (A.deeper (envF F f st.heap.objs.size))) (ok : Valid xs) (hp : SqT K G0 p (xs.map V.str)) (tc : TiesCase K G0 xs v o)
    (right : o = none → ∀ H, Same G0 H → Z v H) (wrong : ∀ y, o = some y → ∀ d H, Same G0 H → H d = some (.xd [("index", y)]) → E (.ref CT) (some d) H) :
    ∃ t, PE (ncx (L2N.CX P w) P w K mg base lamFr F f A out st G0 E) (.Attribute (.Call (.Name "Works" p1) [.Name "_law_heads_here" p2, .Name "_law_thing" p3] [] p4) "ties" p5) t ∧ t (startF lamFr [] [some (.ref p), some v]) G0 Z := by
  refine ⟨_, pe_prop (pe_make M GI hr hgl W.mgC bI .nil passes_nc (pa_cons (pe_var (i := 0) rfl hv1) (pa_cons (pe_var (i := 1) rfl hv2) pa_nil))) W.cl hT GT (hr.mono (by decide)) bT .nil pass0 rfl, ?_⟩
  refine ⟨_, rfl, _, rfl, fun x dx nx nd ne => initY_ok (C := C) (Y := fun x H => ∃ a dx fs, V.ref x = V.ref a ∧ H a = some (.ins C dx fs) ∧ getSp C "_ties" [V.ref a] H Z E0) hp ok tc (fun eo x dx q G' ev s ex => ?_) wrong x dx nx nd ne⟩
  subst ev
  exact ⟨x, dx, _, rfl, ex, x, dx, _, .ref q, rfl, ex, wf_ties p q, right eo _ s⟩
theorem body_kwT {f : Addr} {A : Around} {out : List Env} {st : Shared} {G0 : Hp} {Z : VK} {E : XK} {v : V} {o : Option V} (W : TW K mg C) (M : Mk K C fI)
    (GI : FnOk P w K mg base (L2N.CX P w) 4 fI fdI ["self", "parts", "ties"] (spInitY K C CT)) (kI : KBn K fdI ["self", "parts", "ties"] 1 ["ties", "parts"] (fun us ws => us ++ ws.reverse) (fun us ws => us ++ ws.reverse))
    (hT : PropOf K C "ties" tie fT) (GT : FnOk P w K mg base CX0 1 fT fdT ["self"] (getSp C "_ties")) (bT : Binds K fdT ["self"] [])
    (hgl : F.scope.names.lookup ("Works" : Str) = some .globalImplicit) (hv1 : Vis F.scope "_law_heads_here") (hv2 : Vis F.scope "_law_thing") (hr : Room 5 (A.deeper (envF F f st.heap.objs.size))) (ok : Valid xs) (hp : SqT K G0 p (xs.map V.str)) (tc : TiesCase K G0 xs v o)
    (right : o = none → ∀ H, Same G0 H → Z v H) (wrong : ∀ y, o = some y → ∀ d H, Same G0 H → H d = some (.xd [("index", y)]) → E (.ref CT) (some d) H) :
    ∃ t, PE (ncx (L2N.CX P w) P w K mg base lamFr F f A out st G0 E) (.Attribute (.Call (.Name "Works" p1) [] [⟨some "ties", .Name "_law_thing" p2, p5⟩, ⟨some "parts", .Name "_law_heads_here" p3, p6⟩] p4) "ties" p7) t ∧ t (startF lamFr [] [some (.ref p), some v]) G0 Z := by
  refine ⟨_, pe_prop (pe_makeK0 M GI hr hgl W.mgC kI passes_nc (pk_cons (pe_var (i := 1) rfl hv2) (pk_cons (pe_var (i := 0) rfl hv1) pk_nil))) W.cl hT GT (hr.mono (by decide)) bT .nil pass0 rfl, ?_⟩
  refine ⟨_, rfl, _, rfl, rfl, rfl, fun x dx nx nd ne => initY_ok (C := C) (Y := fun x H => ∃ a dx fs, V.ref x = V.ref a ∧ H a = some (.ins C dx fs) ∧ getSp C "_ties" [V.ref a] H Z E0) hp ok tc (fun eo x dx q G' ev s ex => ?_) wrong x dx nx nd ne⟩
  subst ev
  exact ⟨x, dx, _, rfl, ex, x, dx, _, .ref q, rfl, ex, wf_ties p q, right eo _ s⟩
end
end Fs

namespace Fs
open PySem PySem.Spec PyProof.Rows L2 LamX NdefX
/-- the right parts, and what stands as ties -/
structure StandT (K : PySem.W.Frag) (T : List (Addr × Str)) (j p : Addr) (xs : List Str) (G : Hp) : Prop where
  jug : Jug G j
  tab : Tabs T G
  parts : SqT K G p (xs.map V.str)
theorem StandT.grow {K : PySem.W.Frag} {T : List (Addr × Str)} {j p : Addr} {xs : List Str} {G G' : Hp} (s : StandT K T j p xs G) (g : Grow j G G') (hj : Jug G' j) : StandT K T j p xs G' := by
  obtain ⟨a, b, c, e, _⟩ := s.jug
  exact ⟨hj, tabs_lst s.tab e g, sqT_grow s.jug g s.parts⟩
theorem StandT.keep {K : PySem.W.Frag} {T : List (Addr × Str)} {j p : Addr} {xs : List Str} {G G' : Hp} (s : StandT K T j p xs G) (e : ExtN G G') (tb : Tabs T G') : StandT K T j p xs G' := by
  obtain ⟨a, b, c, q, r⟩ := s.jug
  exact ⟨⟨a, b, c, e _ _ q (fun ps z => nomatch z), r⟩, tb, ext_seqT e s.parts⟩
theorem StandT.same {K : PySem.W.Frag} {T : List (Addr × Str)} {j p : Addr} {xs : List Str} {G G' : Hp} (s : StandT K T j p xs G) (e : Same G G') : StandT K T j p xs G' := s.keep (ExtN.of e) (s.tab.ext e)
def lamScT : Scope := { kind := .function, names := [("_law_heads_here", .free), ("_law_thing", .free), ("Works", .globalImplicit)], isGenerator := false, isCoroutine := false }
theorem lamNST : NScope lamFr [] lamFr lamScT := nscope_by (by decide +kernel)
theorem roads_items {K : PySem.W.Frag} {G : Hp} {j : Addr} {xs : List Str} {L : List Tie} (hj : Jug G j) (ok : Valid xs) (rds : Roads xs L) (ties : ∀ e ∈ L, TieOk G e) : ItemsAt K G j xs (L.map fun e : Tie => (V.ref e.1, some e.2)) := fun z hz => by
  obtain ⟨e, he, rfl⟩ := List.mem_map.mp hz
  have te : G e.1 = some (.tup [.str e.2.1, .str e.2.2]) := ties e he
  obtain ⟨m1, m2, ne⟩ := rds.2 e he
  have n1 := ok.2.2.2 _ m1
  have n2 := ok.2.2.2 _ m2
  have l1 := name_small n1
  have l2 := name_small n2
  exact .pair e.1 (.str e.2.1) (.str e.2.2) (.str e.2.1) (.str e.2.2) rfl (SqT.of (atD (hj.ne_tup te) te)) (.inl ⟨_, rfl, by omega⟩) (.inl ⟨_, rfl, by omega⟩) (.str _) (.str _) ((Fine.str (name_lay n1) l1).mono (by decide) (by decide)) ((Fine.str (name_lay n2) l2).mono (by decide) (by decide))
    (if_pos (show e.2.1 ∈ xs ∧ e.2.2 ∈ xs ∧ e.2.1 ≠ e.2.2 from ⟨m1, m2, ne⟩)).symm
section
variable {P : Program} {w : World} {K : PySem.W.Frag} {mg : Str → Option Value} {base : Heap} {c : ECls}
abbrev nRightT : List Str := ["_law_jug_here", "_law_again", "_law_step", "_law_due_here", "_law_acts", "_law_heads_here", "_law_thing"]
theorem scRightT : FnScope nRightT ["_law_jug_here"] (defScope sRight) := ⟨rfl, rfl, rfl, by decide +kernel, rfl, by decide +kernel, by decide +kernel⟩
theorem ok_rightT {f fS fH fR fB fD fE C CT fI fT tie cR D : Addr} {fd fdS fdH fdR fdB fdD fdE fdI fdT : FuncData} (F : Fun K "_law_right" "_law_right" sRight f fd) (hcd : fd.code = .ref cR) (TB : TabB base mg cR D) (T : TL mg) (lty : mg "list" = none) (W : TW K mg C)
    (DS : DefAt K mg "_law_sip" ["_law_jug_here", "_law_most"] sSip fS fdS)
    (DH : DefAt K mg "_law_heads" ["_law_jug_here", "_law_most_here"] sHeads fH fdH) (GH : FnOk P w K mg base CX0 2 fH fdH ["_law_jug_here", "_law_most_here"] spHeads)
    (DR : DefAt K mg "_law_roads" ["_law_jug_here", "_law_heads_here"] sRoads fR fdR) (GR : FnOk P w K mg base CX0 2 fR fdR ["_law_jug_here", "_law_heads_here"] spRoads)
    (DB : DefAt K mg "_law_bent" ["_law_jug_here", "_law_heads_here", "_law_roads_here"] sBentT fB fdB) (GB : FnOk P w K mg base CX0 2 fB fdB ["_law_jug_here", "_law_heads_here", "_law_roads_here"] (spBentT K))
    (DD : DefAt K mg "_law_due" ["_law_heads_here", "_law_thing"] sDueT fD fdD) (GD : FnG P w K mg base CX0 1 fD fdD ["_law_heads_here", "_law_thing"] (spDueT K))
    (DE : DefAt K mg "_law_is_ended" ["_law_acts", "_law_due_here"] sIsEnded fE fdE) (GE : FnG P w K mg base CX0 8 fE fdE ["_law_acts", "_law_due_here"] (spIsEnded P w K mg base c 6))
    (M : Mk K C fI) (GI : FnOk P w K mg base (L2N.CX P w) 4 fI fdI ["self", "parts", "ties"] (spInitY K C CT)) (bI : Binds K fdI ["self", "parts", "ties"] [])
    (kI : KBn K fdI ["self", "parts", "ties"] 1 ["ties", "parts"] (fun us ws => us ++ ws.reverse) (fun us ws => us ++ ws.reverse))
    (hT : PropOf K C "ties" tie fT) (GT : FnOk P w K mg base CX0 1 fT fdT ["self"] (getSp C "_ties")) (bT : Binds K fdT ["self"] []) (kd : Kind K c CT 4 0) (no : PySem.W.findIn K (.ref CT) "index" = some none) :
    FnG P w K mg base CX0 10 f fd ["_law_jug_here"] (spRightD D) := by
  have GS : FnOk P w K mg base CX0 1 fS fdS ["_law_jug_here", "_law_most"] spSip := ok_sip DS.fn T.b
  refine FnG.mkC F scRightT (fun vs G Z E h => ?_) (fun A out st G vs Z E hr gs h => ?_)
  · obtain ⟨j, rfl, _⟩ := h
    rfl
  · obtain ⟨j, rfl, hj, tb, fin⟩ := h
    rw [hcd] at hr ⊢
    have h1 : Room 1 _ := hr.mono (by decide)
    have h2 : Room 2 _ := hr.mono (by decide)
    have h8 : Room 8 _ := hr.mono (by decide)
    have ru : (cxOf CX0 P w K mg base nRightT "_law_right" (defScope sRight) f (.ref cR) A out st G E).nox.A.units + 65 < cLine := by
      have := hr.un
      show (A.deeper _).units + 65 < cLine
      omega
    have rg : (cxOf CX0 P w K mg base nRightT "_law_right" (defScope sRight) f (.ref cR) A out st G E).nox.A.guards = some [] := gs
    refine ⟨_, (pss_cons (ps_for PassesOwn.never rfl (pi_range1 rfl T.b.rng (pa_cons pe_int pa_nil)) (pg_name (i := 1) scRightT.nd rfl (Or.inl rfl))
        (pss_cons (ps_set (i := 5) scRightT.nd rfl (Or.inr rfl) (pe_call GH h2 rfl DH.gl DH.kp DH.bd .nil pass0 (pa_cons (pv 0) (pa_cons pe_int pa_nil))))
        (pss_cons (ps_set (i := 6) scRightT.nd rfl (Or.inr rfl) (pe_call GR h2 rfl DR.gl DR.kp DR.bd .nil pass0 (pa_cons (pv 0) (pa_cons (pv 5) pa_nil))))
        (pss_cons (ps_for PassesOwn.never rfl (pi_range1 rfl T.b.rng (pa_cons (pe_call GS h1 rfl DS.gl DS.kp DS.bd .nil pass0 (pa_cons (pv 0) (pa_cons pe_int pa_nil))) pa_nil)) (pg_name (i := 2) scRightT.nd rfl (Or.inl rfl))
          (pss_one (ps_set (i := 6) scRightT.nd rfl (Or.inr rfl) (pe_call GB h2 rfl DB.gl DB.kp DB.bd .nil pass0 (pa_cons (pv 0) (pa_cons (pv 5) (pa_cons (pv 6) pa_nil)))))))
        (pss_cons (ps_if (pt_cmpR op_eq (pe_call GS h1 rfl DS.gl DS.kp DS.bd .nil pass0 (pa_cons (pv 0) (pa_cons pe_int pa_nil))) pe_int (nomark _))
            (pss_one (ps_set (i := 6) scRightT.nd rfl (Or.inr rfl) (pe_ix ix_list (pe_lst (pa_cons pe_non (pa_cons (pe_callTy call_list_of (by rfl) lty boot_list (pa_cons (pv 6) pa_nil)) (pa_cons pe_str (pa_cons pe_int (pa_cons pe_dnewK (pa_cons (pe_op op_catA (pv 6) (pv 6)) (pa_cons pe_bl
              (pa_cons (pe_tup (pa_cons (pe_tup pa_nil) pa_nil)) pa_nil)))))))))
              (pe_call GS h1 rfl DS.gl DS.kp DS.bd .nil pass0 (pa_cons (pv 0) (pa_cons pe_int pa_nil))) (fun _ _ => rfl)))) pss_nil)
        (pss_cons (ps_set (i := 3) scRightT.nd rfl (Or.inl rfl) (pe_callG GD h1 rg rfl DD.gl DD.kp DD.bd .nil pass0 (pa_cons (pv 5) (pa_cons (pv 6) pa_nil))))
        (pss_cons (ps_set (i := 4) scRightT.nd rfl (Or.inl rfl) (pe_lst (pa_cons (pe_lamb (T := lamT D) TB rfl (List.mem_singleton.mpr rfl) (fun p hp _ => by cases List.mem_singleton.mp hp; rfl) (ndef_free (sc := defScope sRight) (fr := lamFr) (by decide +kernel))) pa_nil)))
        (pss_cons (ps_expr (pe_bm PySem.F.plainAttrs_list PySem.F.slot_list_append PySem.F.type_list_append mt_append (pv 4) (pa_cons (pe_lamb (T := lamT D) TB rfl (List.mem_singleton.mpr rfl) (fun p hp _ => by cases List.mem_singleton.mp hp; rfl) (ndef_free (sc := defScope sRight) (fr := lamFr) (by decide +kernel))) pa_nil)))
        (pss_one (ps_if (pt_not (pt_val (pe_callIce GE h8 rg (fun ok => cellNew ok fun _ => rfl) rfl DE.gl DE.kp DE.bd .nil (pa_cons (pv 4) (pa_cons (pe_ifExp (pt_cmpR op_isN (pv 3) pe_non (nomark _))
            (pe_lst (pa_cons pe_str (pa_cons (pe_callB (call_reprV ru rg) (by rfl) T.rep boot_repr (pa_cons (pv 6) pa_nil)) pa_nil))) (pv 3)) pa_nil))))) (pss_one (ps_ret pe_bl)) pss_nil))))))))))
        (pss_one (ps_ret pe_bl))), ?_⟩
    refine ⟨8, rfl, by decide, by decide, for_range (lo := 0) (n := 8) (fun i σ G' => ∃ v1 v2 v3 v4 v5 v6 : Option V, σ = [some (.ref j), v1, v2, v3, v4, v5, v6] ∧ Jug G' j ∧ Tabs (lamT D) G' ∧ ExtJ j G G')
      ⟨_, _, _, _, _, _, rfl, hj, tb, fun b o _ q _ => q⟩ ?_ ?_⟩
    · rintro i σ G1 hi ⟨v1, v2, v3, v4, v5, v6, rfl, hj1, tb1, e1⟩
      refine ⟨_, rfl, j, 5, rfl, hj1, by decide, by decide, fun G2 p xs hd len np ep hj2 g2 => ?_⟩
      have ok : Valid xs := heads_valid hd (by omega)
      have sd2 : StandT K (lamT D) j p xs G2 := by
        obtain ⟨a, b, c, q, r⟩ := hj1
        exact ⟨hj2, tabs_lst tb1 q g2, SqT.of ep⟩
      refine ⟨_, rfl, _, rfl, j, p, xs, rfl, hj2, ep, hd.2.1, by omega, fun G3 q L rds few nq eq_ ties hj3 g3 => ?_⟩
      have sd3 := sd2.grow g3 hj3
      have e3 := (e1.grow g2).grow g3
      have it3 : ItemsAt K G3 j xs (L.map fun e : Tie => (V.ref e.1, some e.2)) := roads_items hj3 ok rds ties
      have hq3 : SqT K G3 q ((L.map fun e : Tie => (V.ref e.1, some e.2)).map (·.1)) := by
        rw [List.map_map]
        exact SqT.of eq_
      have lI : (L.map fun e : Tie => (V.ref e.1, some e.2)).length ≤ 64 := by
        rw [List.length_map]
        exact few
      generalize (L.map fun e : Tie => (V.ref e.1, some e.2)) = I at it3 hq3 lI
      refine ⟨_, rfl, j, 3, rfl, hj3, by decide, by decide, fun G5 r5 r50 r51 hj5 g5 => ⟨r5, rfl, by omega, by omega, ?_⟩⟩
      refine for_range (lo := 0) (n := r5.toNat) (fun k σ G' => ∃ (v2 : Option V) (q : Addr) (I : List TIt), σ = [some (.ref j), some (.int (0 + (i : Int))), v2, v3, v4, some (.ref p), some (.ref q)] ∧ SqT K G' q (I.map (·.1)) ∧ ItemsAt K G' j xs I ∧ I.length ≤ 64 + k ∧
        StandT K (lamT D) j p xs G' ∧ ExtJ j G G') ⟨_, q, I, rfl, sqT_grow hj3 g5 hq3, it3.grow g5, lI, sd3.grow g5 hj5, e3.grow g5⟩ ?_ ?_
      · clear it3 hq3 lI sd3 e3
        rintro k σ G6 hk ⟨v2, q, I, rfl, hq6, it6, lI, sd6, e6⟩
        refine ⟨_, rfl, _, rfl, _, rfl, j, p, q, xs, I, rfl, sd6.jug, sd6.parts, ok, hq6, it6, by omega, fun G7 q7 I7 hq7 it7 l7 hj7 g7 => ?_⟩
        exact ⟨_, q7, I7, rfl, hq7, it7, by omega, sd6.grow g7 hj7, e6.grow g7⟩
      · clear it3 hq3 lI sd3 e3
        rintro σ G6 ⟨v2, q, I, rfl, hq6, it6, lI, sd6, e6⟩
        dsimp only [gName, tSeq, tAsg]
        refine viaT (fun sg' G' => ∃ v o, sg' = [some (.ref j), some (.int (0 + (i : Int))), v2, v3, v4, some (.ref p), some v] ∧ TiesCase K G' xs v o ∧ StandT K (lamT D) j p xs G' ∧ ExtJ j G G') (fun N kk => ?_) ?_
        · refine ⟨_, rfl, j, 7, rfl, sd6.jug, by decide, by decide, fun G7 r7 r70 r71 hj7 g7 => ?_⟩
          have sd7 := sd6.grow g7 hj7
          have hq7 := sqT_grow sd6.jug g7 hq6
          have it7 := it6.grow g7
          have e7 := e6.grow g7
          refine ⟨rfl, _, rfl, ite2 (fun _ => ?_) (fun _ => kk _ _ ⟨_, _, rfl, .tup q I rfl hq7 (fun z hz => (it7 z hz).ext delOf) (by omega) rfl, sd7, e7⟩)⟩
          refine ⟨_, rfl, q, _, rfl, .inr hq7, fun l1 hl1 => fun d1 hd1 => ⟨_, rfl, _, rfl, ?_⟩⟩
          have sl : Same G7 (upd G7 l1 (.lst (I.map (·.1)))) := (Same.refl G7).new hl1
          have el : (upd G7 l1 (.lst (I.map (·.1)))) l1 = some (.lst (I.map (·.1))) := upd_same
          have nl := sd7.jug.ne hl1
          generalize (upd G7 l1 (.lst (I.map (·.1)))) = Gl at sl el hd1 ⊢
          have sd : Same Gl (upd Gl d1 (.dK [])) := (Same.refl Gl).new hd1
          have ed : (upd Gl d1 (.dK [])) d1 = some (.dK []) := upd_same
          have nd := (sd7.jug.same sl).ne hd1
          generalize (upd Gl d1 (.dK [])) = Gd at sd ed ⊢
          have hqd := Evl.ex_t sd (Evl.ex_t sl hq7)
          refine cat_any hqd hqd (Nat.le_of_lt (small1000 (by rw [List.length_map]; omega))) fun q2 Gq sq hq2 => ⟨Nat.zero_le _, fun u hu => ⟨by show 1 ≤ sizeLine; decide, fun t1 ht1 => ?_⟩⟩
          have su : Same Gq (upd Gq u (.tup [])) := (Same.refl Gq).new hu
          have eu : (upd Gq u (.tup [])) u = some (.tup []) := upd_same
          generalize (upd Gq u (.tup [])) = Gu at su eu ht1 ⊢
          have st : Same Gu (upd Gu t1 (.tup [.ref u])) := (Same.refl Gu).new ht1
          have et : (upd Gu t1 (.tup [.ref u])) t1 = some (.tup [.ref u]) := upd_same
          generalize (upd Gu t1 (.tup [.ref u])) = Gt at st et ⊢
          refine ⟨by show 8 ≤ sizeLine; decide, fun m hm => ?_⟩
          have s7t : Same G7 Gt := (((sl.trans sd).trans sq).trans su).trans st
          have mj := (sd7.jug.same s7t).ne hm
          have sm : Same Gt (upd Gt m (.lst [.non, .ref l1, .str "a > b", .int 5, .ref d1, .ref q2, .bl true, .ref t1])) := (Same.refl Gt).new hm
          have em : (upd Gt m (.lst [.non, .ref l1, .str "a > b", .int 5, .ref d1, .ref q2, .bl true, .ref t1])) m = some (.lst [.non, .ref l1, .str "a > b", .int 5, .ref d1, .ref q2, .bl true, .ref t1]) := upd_same
          generalize (upd Gt m (.lst [.non, .ref l1, .str "a > b", .int 5, .ref d1, .ref q2, .bl true, .ref t1])) = Gm at sm em ⊢
          have s7m := s7t.trans sm
          have sdm := sd7.same s7m
          refine ⟨_, rfl, j, 8, rfl, sdm.jug, by decide, by decide, fun G9 r9 r90 r91 hj9 g9 => ?_⟩
          have g79 : Grow j G7 G9 := (Grow.of s7m).trans g9
          have nu := sdm.jug.ne_tup (sm _ _ (st _ _ eu))
          have ntt := sdm.jug.ne_tup (sm _ _ et)
          have el9 := g9 _ _ nl (sm _ _ (st _ _ (su _ _ (sq _ _ (sd _ _ el)))))
          have ed9 := g9 _ _ nd (sm _ _ (st _ _ (su _ _ (sq _ _ ed))))
          have eu9 := g9 _ _ nu (sm _ _ (st _ _ eu))
          have et9 := g9 _ _ ntt (sm _ _ et)
          have hq9 := sqT_grow sdm.jug g9 (Evl.ex_t sm (Evl.ex_t st (Evl.ex_t su hq2)))
          have it9 := it7.grow g79
          have pick : ∃ v o, atI [V.non, .ref l1, .str "a > b", .int 5, .ref d1, .ref q2, .bl true, .ref t1] r9 = some v ∧ TiesCase K G9 xs v o := by
            have : r9 = 0 ∨ r9 = 1 ∨ r9 = 2 ∨ r9 = 3 ∨ r9 = 4 ∨ r9 = 5 ∨ r9 = 6 ∨ r9 = 7 := by omega
            rcases this with rfl | rfl | rfl | rfl | rfl | rfl | rfl | rfl
            · exact ⟨_, _, rfl, .other _ (.base .non) (kit_ty (by decide +kernel)) rfl⟩
            · exact ⟨_, _, rfl, .other _ (.base (.lst el9)) (kit_ty (by decide +kernel)) rfl⟩
            · exact ⟨_, _, rfl, .other _ (.base (.str _)) (kit_ty (by decide +kernel)) rfl⟩
            · exact ⟨_, _, rfl, .other _ (.base (.int 5)) (kit_ty (by decide +kernel)) rfl⟩
            · exact ⟨_, _, rfl, .other _ (.base (.dK ed9)) (kit_ty (by decide +kernel)) rfl⟩
            · refine ⟨_, _, rfl, .tup q2 (I ++ I) rfl (by rw [List.map_append]; exact hq9) (fun z hz => ?_) (by rw [List.length_append]; omega) rfl⟩
              rcases List.mem_append.mp hz with hz | hz
              · exact (it9 z hz).ext delOf
              · exact (it9 z hz).ext delOf
            · exact ⟨_, _, rfl, .other _ (.base (.bl true)) (kit_ty (by decide +kernel)) rfl⟩
            · refine ⟨_, _, rfl, .tup t1 [(.ref u, none)] rfl (SqT.of et9) (fun z hz => ?_) (by show 1 ≤ 200; decide) rfl⟩
              rw [List.mem_singleton.mp hz]
              exact .len u [] rfl (SqT.of eu9) (by decide) rfl
          obtain ⟨v, o, av, tc⟩ := pick
          exact ⟨m, _, _, v, rfl, rfl, SqL.of (g9 _ _ mj em), av, kk _ _ ⟨v, o, rfl, tc, sdm.grow g9 hj9, (e7.ext (ExtN.of s7m)).grow g9⟩⟩
        · clear hq6 it6 lI e6 sd6
          rintro σ' G5 ⟨v, o, rfl, tc, sd5, e5⟩
          refine ⟨_, rfl, _, rfl, p, xs, v, o, rfl, sd5.parts, ok, tc, fun eo G6 s6 => ?_, fun y ey G6 r6 s6 nr er => ?_⟩
          · subst eo
            have sd6 := sd5.same s6
            have tc6 := tc.ext (ExtN.of s6)
            refine ⟨sd6.tab, fun f1 c1 G7 x7 n7 tb7 nf1 hf1 hc1 => ⟨by show 1 ≤ sizeLine; decide, fun L0 hL => ?_⟩⟩
            refine ⟨_, rfl, .inl ⟨rfl, _, SqL.of upd_same⟩, tb7.ext ((Same.refl G7).new hL), fun f2 c2 G9 x9 n9 tb9 nf2 hf2 hc2 => ⟨L0, _, _, rfl, rfl, x9 _ _ upd_same (fun ps z => nomatch z), small1000 (by show 1 ≤ 1000; decide), ?_⟩⟩
            have l9 : G9 L0 = some (.lst [.ref f1]) := x9 _ _ upd_same (fun ps z => nomatch z)
            have x610 : ExtN G6 (upd G9 L0 (.lst ([.ref f1] ++ [.ref f2]))) := fun b o q t => by
              have b7 := x7 b o q t
              have ne := ne_of_none b7 hL
              exact (upd_ne ne).trans (x9 b o ((upd_ne ne).trans b7) t)
            have tb10 : Tabs (lamT D) (upd G9 L0 (.lst ([.ref f1] ++ [.ref f2]))) := tabs_lst tb9 l9 fun b o ne q => (upd_ne ne).trans q
            have nf1' := ne_of_none hf1 hL
            have nc1' := ne_of_none hc1 hL
            have gf1 := (upd_ne (o := HO.lst ([.ref f1] ++ [.ref f2])) nf1').trans (x9 f1 _ ((upd_ne nf1').trans hf1) (fun ps => lamO_ne ps))
            have gc1 := (upd_ne (o := HO.lst ([.ref f1] ++ [.ref f2])) nc1').trans (x9 c1 _ ((upd_ne nc1').trans hc1) (fun ps => codeO_ne ps))
            have gf2 := (upd_ne (o := HO.lst ([.ref f1] ++ [.ref f2])) (fun e => by rw [e, upd_same] at nf2; cases nf2)).trans hf2
            have gc2 := (upd_ne (o := HO.lst ([.ref f1] ++ [.ref f2])) (fun e => by
              rw [e, l9] at hc2
              have z := Option.some.inj hc2
              unfold CodeO at z
              cases z)).trans hc2
            have eL : (upd G9 L0 (.lst ([.ref f1] ++ [.ref f2]))) L0 = some (.lst ([f1, f2].map V.ref)) := upd_same
            generalize (upd G9 L0 (.lst ([.ref f1] ++ [.ref f2]))) = G10 at x610 tb10 gf1 gc1 gf2 gc2 eL ⊢
            have sd10 := sd6.keep x610 tb10
            have tc10 := tc6.ext x610
            have e10 := (e5.ext (ExtN.of s6)).ext x610
            obtain ⟨L, rds, sh⟩ := tc10.tells ok
            refine ⟨_, rfl, _, rfl, rfl, _, rfl, ?_⟩
            rw [decide_eq_true (rfl : V.non = V.non)]
            refine iteT ⟨_, rfl, v, _, rfl, sh.dp, sh.fine.sho, sh.fine.shaped (by decide), sh.fine.fits (by decide) (by decide), sh.num, by show 2 ≤ sizeLine; decide, fun D0 hD0 => fun Li ok2 io => ?_⟩
            have s11 : Same G10 (upd G10 D0 (.lst [.str "told", .str (PyData.tuple ((L.map (·.2)).map tieD)).shown])) := (Same.refl G10).new hD0
            have lay : PyData.canLay0 (.str (PyData.tuple ((L.map (·.2)).map tieD)).shown) = true := ascii_lay (ties_ascii ok rds)
            have du : DueAsT K (upd G10 D0 (.lst [.str "told", .str (PyData.tuple ((L.map (·.2)).map tieD)).shown])) v none "told" (PyData.tuple ((L.map (·.2)).map tieD)).shown := ⟨fun _ => ⟨rfl, _, sh.later (ExtN.of s11), rfl⟩, nofun⟩
            refine ice_call (fs := [f1, f2]) io.free (s11 _ _ eL) (by show 2 ≤ 50; decide) (fun f hf => by
                rcases List.mem_cons.mp hf with rfl | hf
                · exact ends_lamT (k := 5) lamNST (fun _ _ => rfl) (s11 _ _ gf1) (s11 _ _ gc1) (io.lam (Caps.made ok2 (ndef_free (sc := defScope sRight) (nsc := lamScT) (fr := lamFr) (by decide +kernel)) (ndef_fr (sc := defScope sRight) (nsc := lamScT) (fr := lamFr) (by decide +kernel)) (js := [5, 6]) rfl) iced_ice) io.free kd no (Evl.ex_t s11 sd10.parts) (tc10.ext (ExtN.of s11)) du
                    (fun A out st G0 Z E hr gs hp tc right wrong => body_pos W M GI bI hT GT bT rfl (.inr (.inr rfl)) (.inr (.inr rfl)) hr ok hp tc right wrong)
                · obtain rfl := List.mem_singleton.mp hf
                  exact ends_lamT (k := 5) lamNST (fun _ _ => rfl) (s11 _ _ gf2) (s11 _ _ gc2) (io.lam (Caps.made ok2 (ndef_free (sc := defScope sRight) (nsc := lamScT) (fr := lamFr) (by decide +kernel)) (ndef_fr (sc := defScope sRight) (nsc := lamScT) (fr := lamFr) (by decide +kernel)) (js := [5, 6]) rfl) iced_ice) io.free kd no (Evl.ex_t s11 sd10.parts) (tc10.ext (ExtN.of s11)) du
                    (fun A out st G0 Z E hr gs hp tc right wrong => body_kwT W M GI kI hT GT bT rfl (.inr (.inr rfl)) (.inr (.inr rfl)) hr ok hp tc right wrong))
              upd_same (fine_two (by decide +kernel) lay) fun G' e0' => ?_
            have e' := extT_thaw io.free e0'
            refine ⟨_, rfl, iteF ?_⟩
            have sd11 := sd10.keep ((ExtN.of s11).trans e'.n) (e'.t _ (tb10.ext s11))
            exact ⟨_, _, _, _, _, _, rfl, sd11.jug, sd11.tab, (e10.ext (ExtN.of s11)).ext e'.n⟩
          · subst ey
            have sd6 := sd5.same s6
            have tc6 := tc.ext (ExtN.of s6)
            refine ⟨sd6.tab, fun f1 c1 G7 x7 n7 tb7 nf1 hf1 hc1 => ⟨by show 1 ≤ sizeLine; decide, fun L0 hL => ?_⟩⟩
            refine ⟨_, rfl, .inl ⟨rfl, _, SqL.of upd_same⟩, tb7.ext ((Same.refl G7).new hL), fun f2 c2 G9 x9 n9 tb9 nf2 hf2 hc2 => ⟨L0, _, _, rfl, rfl, x9 _ _ upd_same (fun ps z => nomatch z), small1000 (by show 1 ≤ 1000; decide), ?_⟩⟩
            have l9 : G9 L0 = some (.lst [.ref f1]) := x9 _ _ upd_same (fun ps z => nomatch z)
            have x610 : ExtN G6 (upd G9 L0 (.lst ([.ref f1] ++ [.ref f2]))) := fun b o q t => by
              have b7 := x7 b o q t
              have ne := ne_of_none b7 hL
              exact (upd_ne ne).trans (x9 b o ((upd_ne ne).trans b7) t)
            have tb10 : Tabs (lamT D) (upd G9 L0 (.lst ([.ref f1] ++ [.ref f2]))) := tabs_lst tb9 l9 fun b o ne q => (upd_ne ne).trans q
            have nf1' := ne_of_none hf1 hL
            have nc1' := ne_of_none hc1 hL
            have gf1 := (upd_ne (o := HO.lst ([.ref f1] ++ [.ref f2])) nf1').trans (x9 f1 _ ((upd_ne nf1').trans hf1) (fun ps => lamO_ne ps))
            have gc1 := (upd_ne (o := HO.lst ([.ref f1] ++ [.ref f2])) nc1').trans (x9 c1 _ ((upd_ne nc1').trans hc1) (fun ps => codeO_ne ps))
            have gf2 := (upd_ne (o := HO.lst ([.ref f1] ++ [.ref f2])) (fun e => by rw [e, upd_same] at nf2; cases nf2)).trans hf2
            have gc2 := (upd_ne (o := HO.lst ([.ref f1] ++ [.ref f2])) (fun e => by
              rw [e, l9] at hc2
              have z := Option.some.inj hc2
              unfold CodeO at z
              cases z)).trans hc2
            have eL : (upd G9 L0 (.lst ([.ref f1] ++ [.ref f2]))) L0 = some (.lst ([f1, f2].map V.ref)) := upd_same
            generalize (upd G9 L0 (.lst ([.ref f1] ++ [.ref f2]))) = G10 at x610 tb10 gf1 gc1 gf2 gc2 eL ⊢
            have sd10 := sd6.keep x610 tb10
            have tc10 := tc6.ext x610
            have e10 := (e5.ext (ExtN.of s6)).ext x610
            have er10 : G10 r6 = some (.lst [.str "ties", .str (idxE y).shown]) := x610 _ _ er (fun ps z => nomatch z)
            have du : DueAsT K G10 v (some y) "ties" (idxE y).shown := ⟨nofun, fun y' e => by cases e; exact ⟨rfl, rfl⟩⟩
            have lay := idxE_lay (tc10.idx y rfl)
            refine ⟨_, rfl, _, rfl, rfl, _, rfl, ?_⟩
            rw [decide_eq_false (show ¬ V.ref r6 = V.non from nofun)]
            refine iteF ⟨_, rfl, fun Li ok2 io => ?_⟩
            refine ice_call (fs := [f1, f2]) io.free eL (by show 2 ≤ 50; decide) (fun f hf => by
                rcases List.mem_cons.mp hf with rfl | hf
                · exact ends_lamT (k := 5) lamNST (fun _ _ => rfl) gf1 gc1 (io.lam (Caps.made ok2 (ndef_free (sc := defScope sRight) (nsc := lamScT) (fr := lamFr) (by decide +kernel)) (ndef_fr (sc := defScope sRight) (nsc := lamScT) (fr := lamFr) (by decide +kernel)) (js := [5, 6]) rfl) iced_ice) io.free kd no sd10.parts tc10 du
                    (fun A out st G0 Z E hr gs hp tc right wrong => body_pos W M GI bI hT GT bT rfl (.inr (.inr rfl)) (.inr (.inr rfl)) hr ok hp tc right wrong)
                · obtain rfl := List.mem_singleton.mp hf
                  exact ends_lamT (k := 5) lamNST (fun _ _ => rfl) gf2 gc2 (io.lam (Caps.made ok2 (ndef_free (sc := defScope sRight) (nsc := lamScT) (fr := lamFr) (by decide +kernel)) (ndef_fr (sc := defScope sRight) (nsc := lamScT) (fr := lamFr) (by decide +kernel)) (js := [5, 6]) rfl) iced_ice) io.free kd no sd10.parts tc10 du
                    (fun A out st G0 Z E hr gs hp tc right wrong => body_kwT W M GI kI hT GT bT rfl (.inr (.inr rfl)) (.inr (.inr rfl)) hr ok hp tc right wrong))
              er10 (fine_two (by decide +kernel) lay) fun G' e0' => ?_
            have e' := extT_thaw io.free e0'
            refine ⟨_, rfl, iteF ?_⟩
            have sd11 := sd10.keep e'.n (e'.t _ tb10)
            exact ⟨_, _, _, _, _, _, rfl, sd11.jug, sd11.tab, e10.ext e'.n⟩
    · rintro σ G1 ⟨v1, v2, v3, v4, v5, v6, rfl, hj1, tb1, e1⟩
      exact fin _ hj1 tb1 e1
end
end Fs

namespace Fs
open PySem PySem.Spec PyProof.Rows L2 LamX NdefX
def spLawD (K : PySem.W.Frag) (D : Addr) : Sp := fun vs G Z _ => ∃ a ns, vs = [.ref a] ∧ ns.length ≤ 63 ∧ SqL K G a (List.map V.int ns) ∧ Tabs (lamT D) G ∧ ∀ G', Z (.bl true) G'
theorem tab_mk {K : PySem.W.Frag} {x : Str} {f c D : Addr} {oc oc2 : Value} {od od2 : Option Addr} {fd : FuncData} {sl sl2 : Array (Option Value)} {vs : Array Value} (a : PySem.W.nsIn K mainGlobals x = some (some (.ref f))) (l : K.lookup f = some ⟨oc, od, .func fd, sl⟩) (hc : fd.code = .ref c)
    (l2 : K.lookup c = some ⟨oc2, od2, .fields vs, sl2⟩) (v : (vs[11]? : Option Value) = some (.ref D)) : PySem.W.tabIn K x = some (c, D) := by
  unfold PySem.W.tabIn
  rw [a]
  dsimp only
  rw [l]
  dsimp only
  rw [hc]
  dsimp only
  rw [l2]
  dsimp only
  rw [v]
theorem look_of {D : Addr} : ∀ {K : PySem.W.Frag}, (K.map (·.1)).contains D = false → K.lookup D = none
  | [], _ => rfl
  | (a, o) :: r, h => by
    rw [List.map_cons, List.contains_cons] at h
    obtain ⟨h1, h2⟩ := Bool.or_eq_false_iff.mp h
    rw [List.lookup_cons, h1]
    exact look_of h2
theorem exm_of {K : PySem.W.Frag} {a b : Addr} {v : Bool} (ne : ((Value.ref a) == (Value.ref b)) = false) (k : PySem.W.kitOne K (.ref a) (.ref b) = some v) (s : PySem.W.subIn K (.ref b) (.type "BaseException") = some true) : PySem.W.exmOne K (.ref a) (.ref b) = some v := by
  unfold PySem.W.kitOne at k
  rw [ne] at k
  unfold PySem.W.exmOne
  rw [s]
  exact k
theorem any_of {K : PySem.W.Frag} {t a b c : Value} {x y z : Bool} (h1 : PySem.W.exmOne K t a = some x) (h2 : PySem.W.exmOne K t b = some y) (h3 : PySem.W.exmOne K t c = some z) (h : (x || (y || (z || false))) = true) : PySem.W.exmAny K t [a, b, c] = some true := by
  unfold PySem.W.exmAny
  rw [h1]
  unfold PySem.W.exmAny
  rw [h2]
  unfold PySem.W.exmAny
  rw [h3]
  unfold PySem.W.exmAny
  exact congrArg some h
theorem tabs_nil {D : Addr} {G : Hp} (h : G D = some (.tbl #[])) : Tabs (lamT D) G := fun p hp => by
  cases List.mem_singleton.mp hp
  exact TabS.nil h
section
variable {P : Program} {w : World} {K : PySem.W.Frag} {mg : Str → Option Value} {base : Heap} {D : Addr}
theorem scQuiet : FnScope ["_law_jug_here", "_law_is_right"] ["_law_jug_here"] (defScope sQuiet) := ⟨rfl, rfl, rfl, by decide +kernel, rfl, by decide +kernel, by decide +kernel⟩
theorem ok_quiet {n : Nat} {f fR : Addr} {fd fdR : FuncData} (F : Fun K "_law_quiet" "_law_quiet" sQuiet f fd) (DR : DefAt K mg "_law_right" ["_law_jug_here"] sRight fR fdR)
    (GR : FnG P w K mg base CX0 n fR fdR ["_law_jug_here"] (spRightD D)) : FnG P w K mg base CX0 (n + 1) f fd ["_law_jug_here"] (spRightD D) := by
  refine FnG.mk' F scQuiet (fun vs G Z E h => ?_) (fun cdv A out st G vs Z E hr gs h => ?_)
  · obtain ⟨j, rfl, _⟩ := h
    rfl
  · obtain ⟨j, rfl, hj, tb, fin⟩ := h
    refine ⟨_, (pss_cons (ps_try_thru0 (pss_one (ps_set (i := 1) scQuiet.nd rfl (Or.inl rfl) (pe_callG GR hr (by exact gs) rfl DR.gl DR.kp DR.bd .nil pass0 (pa_cons (pv 0) pa_nil)))))
        (pss_one (ps_ret (pv 1)))), ?_⟩
    exact ⟨_, rfl, j, rfl, hj, tb, fun G' hj' tb' x => ⟨_, rfl, fin G' hj' tb' x⟩⟩
theorem scLaw : FnScope ["_law_script", "_law_at"] ["_law_script"] (defScope sLaw) := ⟨rfl, rfl, rfl, by decide +kernel, rfl, by decide +kernel, by decide +kernel⟩
theorem ok_law {n : Nat} {f fQ fJ : Addr} {fd fdQ fdJ : FuncData} (F : Fun K "law" "law" sLaw f fd) (T : TL mg) (DQ : DefAt K mg "_law_quiet" ["_law_jug_here"] sQuiet fQ fdQ) (GQ : FnG P w K mg base CX0 (n + 1) fQ fdQ ["_law_jug_here"] (spRightD D))
    (DJ : DefAt K mg "_law_jug" ["_law_script", "_law_at"] sJug fJ fdJ) : FnG P w K mg base CX0 (n + 2) f fd ["_law_script"] (spLawD K D) := by
  have GJ : FnOk P w K mg base CX0 1 fJ fdJ ["_law_script", "_law_at"] (spJug K) := ok_jug DJ.fn T.b
  refine FnG.mk' F scLaw (fun vs G Z E h => ?_) (fun cdv A out st G vs Z E hr gs h => ?_)
  · obtain ⟨a, ns, rfl, _⟩ := h
    rfl
  · obtain ⟨a, ns, rfl, few, hS, tb, fin⟩ := h
    refine ⟨_, (pss_one (ps_ret (pe_callB (cr_all rfl) (by rfl) T.all boot_all (pa_cons (pe_lc (own := [("_law_at", 1)]) (g := gName 1) (tt := tYes) (te := tCall (spRightD D) [] E0 (tCons (tCall (spJug K) [] E0 (tCons (tVar 0) (tCons (tVar 1) tNil))) tNil)) rfl scLaw.nd
        (pi_range1 rfl T.b.rng (pa_cons (pe_callB (call_max2 rfl) (by rfl) T.max boot_max (pa_cons pe_int (pa_cons (pe_callB (call_min2 rfl) (by rfl) T.min boot_min (pa_cons (pe_callB call_len_seq (by rfl) T.b.len PySem.boot_len (pa_cons (pv 0) pa_nil)) (pa_cons pe_int pa_nil))) pa_nil))) pa_nil))
        (blkOk_by (N := ["_law_script", "_law_at"]) (sc := defScope sLaw) (by decide +kernel)) (fun _ _ _ _ _ => pg_name (i := 1) scLaw.nd rfl (Or.inl rfl)) (fun _ _ _ _ _ => pts_nil)
        (fun _ _ _ _ _ => pe_callG GQ hr (by exact gs) rfl DQ.gl DQ.kp DQ.bd .nil pass0 (pa_cons (pe_call GJ (hr.mono (by omega)) rfl DJ.gl DJ.kp DJ.bd .nil pass0 (pa_cons (pv 0) (pa_cons (pv 1) pa_nil))) pa_nil))) pa_nil)))), ?_⟩
    refine ⟨_, rfl, a, _, rfl, .inl hS, _, _, rfl, _, _, rfl, _, rfl, ?_, ?_, fun Dl hD => ?_⟩
    · split <;> split <;> omega
    · split <;> split <;> omega
    · generalize hn : (if (if (5 : Int) < ((ns.map V.int).length : Nat) then (5 : Int) else ((ns.map V.int).length : Nat)) > 2 then (if (5 : Int) < ((ns.map V.int).length : Nat) then (5 : Int) else ((ns.map V.int).length : Nat)) else (2 : Int)) = m
      have m5 : m.toNat ≤ 5 := by
        rw [← hn]
        split <;> split <;> omega
      refine lc_range (lo := 0) (n := m.toNat) (fun i G' => ExtN G G' ∧ Tabs (lamT D) G' ∧ G' Dl = some (.lst ((List.replicate i true).map V.bl))) ⟨ExtN.of ((Same.refl G).new hD), tb.ext ((Same.refl G).new hD), upd_same⟩ ?_ ?_
      · rintro i G1 hi ⟨x1, tb1, eD⟩
        refine ⟨rfl, _, rfl, _, rfl, a, _, ns, rfl, ext_seqL x1 hS, by omega, fun G2 j nj hj2 s2 => ⟨j, rfl, hj2, tb1.ext s2, fun G3 hj3 tb3 x3 => ?_⟩⟩
        have Dj : Dl ≠ j := ne_of_none eD nj
        have eD3 : G3 Dl = some (.lst ((List.replicate i true).map V.bl)) := x3 _ _ Dj (s2 _ _ eD) (fun ps z => nomatch z)
        refine ⟨_, eD3, ?_, fun b o hb t => ?_, tabs_lst tb3 eD3 fun b o ne q => (upd_ne ne).trans q, ?_⟩
        · rw [List.length_map, List.length_replicate]
          exact small1000 (by omega)
        · have b1 := x1 b o hb t
          rw [upd_ne (ne_of_none hb hD)]
          exact x3 _ _ (ne_of_none b1 nj) (s2 _ _ b1) t
        · rw [upd_same]
          show some (HO.lst ((List.replicate i true).map V.bl ++ [true].map V.bl)) = _
          rw [← List.map_append, ← List.replicate_succ']
      · rintro G1 ⟨x1, tb1, eD⟩
        refine ⟨Dl, List.replicate m.toNat true, rfl, SqL.of eD, ?_⟩
        have all : (List.replicate m.toNat true).all id = true := by
          rw [List.all_eq_true]
          intro x hx
          exact (List.mem_replicate.mp hx).2
        rw [all]
        exact fin G1
end
end Fs

namespace Fs
open PySem PySem.Spec PyProof.Rows L2 LamX NdefX
abbrev NLAW : Nat := 12
abbrev sErrT : Stmt := (inClass (top 8) 0)
theorem all_mk {l : PySem.W.OpenLaw} {w : World} {K : PySem.W.Frag} {h : Heap} {mg : Str → Option Value} {fa : Addr} (X : K.In h) (G : h.Ns mainGlobals mg) (hfa : mg "law" = some (.ref fa))
    {fSip : Addr} {odSip anSip : Option Addr} {slSip : Array (Option Value)} {ocSip kVSip dcSip pmSip cdSip ctSip : Value}
    {fJug : Addr} {odJug anJug : Option Addr} {slJug : Array (Option Value)} {ocJug kVJug dcJug pmJug cdJug ctJug : Value}
    {fHds : Addr} {odHds anHds : Option Addr} {slHds : Array (Option Value)} {ocHds kVHds dcHds pmHds cdHds ctHds : Value}
    {fRds : Addr} {odRds anRds : Option Addr} {slRds : Array (Option Value)} {ocRds kVRds dcRds pmRds cdRds ctRds : Value}
    {fBnt : Addr} {odBnt anBnt : Option Addr} {slBnt : Array (Option Value)} {ocBnt kVBnt dcBnt pmBnt cdBnt ctBnt : Value}
    {fEnd : Addr} {odEnd anEnd : Option Addr} {slEnd : Array (Option Value)} {ocEnd kVEnd dcEnd pmEnd cdEnd ctEnd : Value}
    {fIsE : Addr} {odIsE anIsE : Option Addr} {slIsE : Array (Option Value)} {ocIsE kVIsE dcIsE pmIsE cdIsE ctIsE : Value}
    {fDue : Addr} {odDue anDue : Option Addr} {slDue : Array (Option Value)} {ocDue kVDue dcDue pmDue cdDue ctDue : Value}
    {fNam : Addr} {odNam anNam : Option Addr} {slNam : Array (Option Value)} {ocNam kVNam dcNam pmNam cdNam ctNam : Value}
    {fAmg : Addr} {odAmg anAmg : Option Addr} {slAmg : Array (Option Value)} {ocAmg kVAmg dcAmg pmAmg cdAmg ctAmg : Value}
    {fPrt : Addr} {odPrt anPrt : Option Addr} {slPrt : Array (Option Value)} {ocPrt kVPrt dcPrt pmPrt cdPrt ctPrt : Value}
    {fPai : Addr} {odPai anPai : Option Addr} {slPai : Array (Option Value)} {ocPai kVPai dcPai pmPai cdPai ctPai : Value}
    {fTie : Addr} {odTie anTie : Option Addr} {slTie : Array (Option Value)} {ocTie kVTie dcTie pmTie cdTie ctTie : Value}
    {fRgt : Addr} {odRgt anRgt : Option Addr} {slRgt : Array (Option Value)} {ocRgt kVRgt dcRgt pmRgt cdRgt ctRgt : Value}
    {fQui : Addr} {odQui anQui : Option Addr} {slQui : Array (Option Value)} {ocQui kVQui dcQui pmQui cdQui ctQui : Value}
    {fLaw : Addr} {odLaw anLaw : Option Addr} {slLaw : Array (Option Value)} {ocLaw kVLaw dcLaw pmLaw cdLaw ctLaw : Value}
    {C : Addr}
    {fIni : Addr} {odIni anIni : Option Addr} {slIni : Array (Option Value)} {ocIni kVIni dcIni pmIni cdIni ctIni : Value}
    {TIni eIni : Addr} {odTIni : Option Addr} {ocTIni : Value} {nTIni : Nat} {slTIni : Array (Option Value)}
    {pTis fTis : Addr} {odTis anTis : Option Addr} {slTis : Array (Option Value)} {ocTis kVTis dcTis pmTis cdTis ctTis : Value} {restTis : List Value}
    {tkLet : Tok}
    {tkSgn : Tok}
    {tkMst : Tok}
    {tkMpt : Tok}
    {e_t e_n e_w e_p e_i e_l e_s e_a e_u e_e e_k e_y e_v e_m e_z : Addr} {fEr cR D : Addr} {odEr anEr : Option Addr} {slEr : Array (Option Value)} {ocEr kVEr dcEr pmEr cdEr ctEr : Value} {ocC : Value} {odC : Option Addr} {vsC : Array Value} {slC : Array (Option Value)} {oNm oQ : Str} {oN : Addr} {oBs oBm : List Value} {oSn : List Str} {oSub : List Value} {oAb : Bool} {oCol : Option Bool} {oDd : Option Addr} {oK0 oK1 oK2 oK3 oK5 : Option Value}
    (aSip : PySem.W.nsIn K mainGlobals "_law_sip" = some (some (.ref fSip)))
    (lSip : K.lookup fSip = some ⟨ocSip, odSip, .func (PySem.W.fnOf "_law_sip" "_law_sip" (defArgs sSip) (defBody sSip) (defScope sSip) .none kVSip dcSip pmSip anSip cdSip ctSip), slSip⟩)
    (cSip : PySem.W.codeIn K cdSip "_law_sip" = true)
    (kSip : PySem.W.keepIn K (.ref fSip) = true)
    (aJug : PySem.W.nsIn K mainGlobals "_law_jug" = some (some (.ref fJug)))
    (lJug : K.lookup fJug = some ⟨ocJug, odJug, .func (PySem.W.fnOf "_law_jug" "_law_jug" (defArgs sJug) (defBody sJug) (defScope sJug) .none kVJug dcJug pmJug anJug cdJug ctJug), slJug⟩)
    (cJug : PySem.W.codeIn K cdJug "_law_jug" = true)
    (kJug : PySem.W.keepIn K (.ref fJug) = true)
    (aHds : PySem.W.nsIn K mainGlobals "_law_heads" = some (some (.ref fHds)))
    (lHds : K.lookup fHds = some ⟨ocHds, odHds, .func (PySem.W.fnOf "_law_heads" "_law_heads" (defArgs sHeads) (defBody sHeads) (defScope sHeads) .none kVHds dcHds pmHds anHds cdHds ctHds), slHds⟩)
    (cHds : PySem.W.codeIn K cdHds "_law_heads" = true)
    (kHds : PySem.W.keepIn K (.ref fHds) = true)
    (aRds : PySem.W.nsIn K mainGlobals "_law_roads" = some (some (.ref fRds)))
    (lRds : K.lookup fRds = some ⟨ocRds, odRds, .func (PySem.W.fnOf "_law_roads" "_law_roads" (defArgs sRoads) (defBody sRoads) (defScope sRoads) .none kVRds dcRds pmRds anRds cdRds ctRds), slRds⟩)
    (cRds : PySem.W.codeIn K cdRds "_law_roads" = true)
    (kRds : PySem.W.keepIn K (.ref fRds) = true)
    (aBnt : PySem.W.nsIn K mainGlobals "_law_bent" = some (some (.ref fBnt)))
    (lBnt : K.lookup fBnt = some ⟨ocBnt, odBnt, .func (PySem.W.fnOf "_law_bent" "_law_bent" (defArgs sBentT) (defBody sBentT) (defScope sBentT) .none kVBnt dcBnt pmBnt anBnt cdBnt ctBnt), slBnt⟩)
    (cBnt : PySem.W.codeIn K cdBnt "_law_bent" = true)
    (kBnt : PySem.W.keepIn K (.ref fBnt) = true)
    (aEnd : PySem.W.nsIn K mainGlobals "_law_ended" = some (some (.ref fEnd)))
    (lEnd : K.lookup fEnd = some ⟨ocEnd, odEnd, .func (PySem.W.fnOf "_law_ended" "_law_ended" (defArgs sEnded) (defBody sEnded) (defScope sEnded) .none kVEnd dcEnd pmEnd anEnd cdEnd ctEnd), slEnd⟩)
    (cEnd : PySem.W.codeIn K cdEnd "_law_ended" = true)
    (kEnd : PySem.W.keepIn K (.ref fEnd) = true)
    (aIsE : PySem.W.nsIn K mainGlobals "_law_is_ended" = some (some (.ref fIsE)))
    (lIsE : K.lookup fIsE = some ⟨ocIsE, odIsE, .func (PySem.W.fnOf "_law_is_ended" "_law_is_ended" (defArgs sIsEnded) (defBody sIsEnded) (defScope sIsEnded) .none kVIsE dcIsE pmIsE anIsE cdIsE ctIsE), slIsE⟩)
    (cIsE : PySem.W.codeIn K cdIsE "_law_is_ended" = true)
    (kIsE : PySem.W.keepIn K (.ref fIsE) = true)
    (aDue : PySem.W.nsIn K mainGlobals "_law_due" = some (some (.ref fDue)))
    (lDue : K.lookup fDue = some ⟨ocDue, odDue, .func (PySem.W.fnOf "_law_due" "_law_due" (defArgs sDueT) (defBody sDueT) (defScope sDueT) .none kVDue dcDue pmDue anDue cdDue ctDue), slDue⟩)
    (cDue : PySem.W.codeIn K cdDue "_law_due" = true)
    (kDue : PySem.W.keepIn K (.ref fDue) = true)
    (aNam : PySem.W.nsIn K mainGlobals "is_name" = some (some (.ref fNam)))
    (lNam : K.lookup fNam = some ⟨ocNam, odNam, .func (PySem.W.fnOf "is_name" "is_name" (defArgs sName) (defBody sName) (defScope sName) .none kVNam dcNam pmNam anNam cdNam ctNam), slNam⟩)
    (cNam : PySem.W.codeIn K cdNam "is_name" = true)
    (kNam : PySem.W.keepIn K (.ref fNam) = true)
    (aAmg : PySem.W.nsIn K mainGlobals "is_among" = some (some (.ref fAmg)))
    (lAmg : K.lookup fAmg = some ⟨ocAmg, odAmg, .func (PySem.W.fnOf "is_among" "is_among" (defArgs sAmong) (defBody sAmong) (defScope sAmong) .none kVAmg dcAmg pmAmg anAmg cdAmg ctAmg), slAmg⟩)
    (cAmg : PySem.W.codeIn K cdAmg "is_among" = true)
    (kAmg : PySem.W.keepIn K (.ref fAmg) = true)
    (aPrt : PySem.W.nsIn K mainGlobals "_check_parts" = some (some (.ref fPrt)))
    (lPrt : K.lookup fPrt = some ⟨ocPrt, odPrt, .func (PySem.W.fnOf "_check_parts" "_check_parts" (defArgs sParts) (defBody sParts) (defScope sParts) .none kVPrt dcPrt pmPrt anPrt cdPrt ctPrt), slPrt⟩)
    (cPrt : PySem.W.codeIn K cdPrt "_check_parts" = true)
    (kPrt : PySem.W.keepIn K (.ref fPrt) = true)
    (aPai : PySem.W.nsIn K mainGlobals "is_pair" = some (some (.ref fPai)))
    (lPai : K.lookup fPai = some ⟨ocPai, odPai, .func (PySem.W.fnOf "is_pair" "is_pair" (defArgs sPair) (defBody sPair) (defScope sPair) .none kVPai dcPai pmPai anPai cdPai ctPai), slPai⟩)
    (cPai : PySem.W.codeIn K cdPai "is_pair" = true)
    (kPai : PySem.W.keepIn K (.ref fPai) = true)
    (aTie : PySem.W.nsIn K mainGlobals "_check_ties" = some (some (.ref fTie)))
    (lTie : K.lookup fTie = some ⟨ocTie, odTie, .func (PySem.W.fnOf "_check_ties" "_check_ties" (defArgs sTies) (defBody sTies) (defScope sTies) .none kVTie dcTie pmTie anTie cdTie ctTie), slTie⟩)
    (cTie : PySem.W.codeIn K cdTie "_check_ties" = true)
    (kTie : PySem.W.keepIn K (.ref fTie) = true)
    (aRgt : PySem.W.nsIn K mainGlobals "_law_right" = some (some (.ref fRgt)))
    (lRgt : K.lookup fRgt = some ⟨ocRgt, odRgt, .func (PySem.W.fnOf "_law_right" "_law_right" (defArgs sRight) (defBody sRight) (defScope sRight) .none kVRgt dcRgt pmRgt anRgt cdRgt ctRgt), slRgt⟩)
    (cRgt : PySem.W.codeIn K cdRgt "_law_right" = true)
    (kRgt : PySem.W.keepIn K (.ref fRgt) = true)
    (aQui : PySem.W.nsIn K mainGlobals "_law_quiet" = some (some (.ref fQui)))
    (lQui : K.lookup fQui = some ⟨ocQui, odQui, .func (PySem.W.fnOf "_law_quiet" "_law_quiet" (defArgs sQuiet) (defBody sQuiet) (defScope sQuiet) .none kVQui dcQui pmQui anQui cdQui ctQui), slQui⟩)
    (cQui : PySem.W.codeIn K cdQui "_law_quiet" = true)
    (kQui : PySem.W.keepIn K (.ref fQui) = true)
    (aLaw : PySem.W.nsIn K mainGlobals "law" = some (some (.ref fLaw)))
    (lLaw : K.lookup fLaw = some ⟨ocLaw, odLaw, .func (PySem.W.fnOf "law" "law" (defArgs sLaw) (defBody sLaw) (defScope sLaw) .none kVLaw dcLaw pmLaw anLaw cdLaw ctLaw), slLaw⟩)
    (cLaw : PySem.W.codeIn K cdLaw "law" = true)
    (kLaw : PySem.W.keepIn K (.ref fLaw) = true)
    (aC : PySem.W.nsIn K mainGlobals "Works" = some (some (.ref C)))
    (aIni : PySem.W.findIn K (.ref C) "__init__" = some (some (.ref fIni)))
    (iIni : PySem.W.isFn K (.ref fIni) = true)
    (lIni : K.lookup fIni = some ⟨ocIni, odIni, .func (PySem.W.fnOf "__init__" "Works.__init__" (defArgs sInit) (defBody sInit) (defScope sInit) (.ref TIni) kVIni dcIni pmIni anIni cdIni ctIni), slIni⟩)
    (tIni : K.lookup TIni = some ⟨ocTIni, odTIni, .seq #[.ref eIni] nTIni, slTIni⟩)
    (cIni : PySem.W.codeIn K cdIni "Works.__init__" = true)
    (kIni : PySem.W.keepIn K (.ref fIni) = true)
    (aTis : PySem.W.findIn K (.ref C) "ties" = some (some (.ref pTis)))
    (gTis : PySem.W.specialIn K (.ref pTis) "__get__" = some (some (.builtin "property.__get__")))
    (tTis : PySem.W.takesIn K (.ref pTis) = some true)
    (rTis : PySem.W.recIn K pTis "property" = some (.ref fTis :: restTis))
    (lTis : K.lookup fTis = some ⟨ocTis, odTis, .func (PySem.W.fnOf "ties" "Works.ties" (defArgs sGetT) (defBody sGetT) (defScope sGetT) .none kVTis dcTis pmTis anTis cdTis ctTis), slTis⟩)
    (cTis : PySem.W.codeIn K cdTis "Works.ties" = true)
    (kTis : PySem.W.keepIn K (.ref fTis) = true)
    (pg : PySem.W.plainGet K C Str.empty = true)
    (hd : PySem.W.hasDictIn K C = true)
    (po : PySem.W.plainOver K C = true)
    (sa : PySem.W.findIn K (.ref C) "__setattr__" = some (some (.builtin "object.__setattr__")))
    (mk : PySem.W.makesIn K C = true)
    (kc : PySem.W.keepIn K (.ref C) = true)
    (n_parts : PySem.W.findIn K (.ref C) "_parts" = some none)
    (n_ties : PySem.W.findIn K (.ref C) "_ties" = some none)
    (zlen : PySem.W.nsIn K mainGlobals "len" = some none)
    (zint : PySem.W.nsIn K mainGlobals "int" = some none)
    (zabs : PySem.W.nsIn K mainGlobals "abs" = some none)
    (zdivmod : PySem.W.nsIn K mainGlobals "divmod" = some none)
    (zrange : PySem.W.nsIn K mainGlobals "range" = some none)
    (ztuple : PySem.W.nsIn K mainGlobals "tuple" = some none)
    (zrepr : PySem.W.nsIn K mainGlobals "repr" = some none)
    (zall : PySem.W.nsIn K mainGlobals "all" = some none)
    (zmax : PySem.W.nsIn K mainGlobals "max" = some none)
    (zmin : PySem.W.nsIn K mainGlobals "min" = some none)
    (zisinstance : PySem.W.nsIn K mainGlobals "isinstance" = some none)
    (zstr : PySem.W.nsIn K mainGlobals "str" = some none)
    (zenumerate : PySem.W.nsIn K mainGlobals "enumerate" = some none)
    (zlist : PySem.W.nsIn K mainGlobals "list" = some none)
    (vLet : PySem.W.nsIn K mainGlobals "_LETTERS" = some (some (.str letterS tkLet)))
    (vSgn : PySem.W.nsIn K mainGlobals "_SIGNS" = some (some (.str signS tkSgn)))
    (vMst : PySem.W.nsIn K mainGlobals "_MOST_SIGNS" = some (some (.int 8 tkMst)))
    (vMpt : PySem.W.nsIn K mainGlobals "MOST_PARTS" = some (some (.int 8 tkMpt)))
    (x_t : PySem.W.nsIn K mainGlobals "InvalidText" = some (some (.ref e_t)))
    (x_n : PySem.W.nsIn K mainGlobals "InvalidNumber" = some (some (.ref e_n)))
    (x_w : PySem.W.nsIn K mainGlobals "NotWorks" = some (some (.ref e_w)))
    (x_p : PySem.W.nsIn K mainGlobals "InvalidParts" = some (some (.ref e_p)))
    (x_i : PySem.W.nsIn K mainGlobals "InvalidTies" = some (some (.ref e_i)))
    (x_l : PySem.W.nsIn K mainGlobals "InvalidLeaders" = some (some (.ref e_l)))
    (x_s : PySem.W.nsIn K mainGlobals "InvalidStrengths" = some (some (.ref e_s)))
    (x_a : PySem.W.nsIn K mainGlobals "InvalidState" = some (some (.ref e_a)))
    (x_u : PySem.W.nsIn K mainGlobals "InvalidPushes" = some (some (.ref e_u)))
    (x_e : PySem.W.nsIn K mainGlobals "InvalidSeen" = some (some (.ref e_e)))
    (x_k : PySem.W.nsIn K mainGlobals "UnknownName" = some (some (.ref e_k)))
    (x_y : PySem.W.nsIn K mainGlobals "NoWay" = some (some (.ref e_y)))
    (x_v : PySem.W.nsIn K mainGlobals "WrongValue" = some (some (.ref e_v)))
    (x_m : PySem.W.nsIn K mainGlobals "WrongName" = some (some (.ref e_m)))
    (x_z : PySem.W.nsIn K mainGlobals "NoAnswer" = some (some (.ref e_z)))
    (q_t : PySem.W.kitOne K (.ref e_i) (.ref e_t) = some false)
    (q_n : PySem.W.kitOne K (.ref e_i) (.ref e_n) = some false)
    (q_w : PySem.W.kitOne K (.ref e_i) (.ref e_w) = some false)
    (q_p : PySem.W.kitOne K (.ref e_i) (.ref e_p) = some false)
    (q_i : PySem.W.kitOne K (.ref e_i) (.ref e_i) = some true)
    (q_l : PySem.W.kitOne K (.ref e_i) (.ref e_l) = some false)
    (q_s : PySem.W.kitOne K (.ref e_i) (.ref e_s) = some false)
    (q_a : PySem.W.kitOne K (.ref e_i) (.ref e_a) = some false)
    (q_u : PySem.W.kitOne K (.ref e_i) (.ref e_u) = some false)
    (q_e : PySem.W.kitOne K (.ref e_i) (.ref e_e) = some false)
    (q_k : PySem.W.kitOne K (.ref e_i) (.ref e_k) = some false)
    (q_y : PySem.W.kitOne K (.ref e_i) (.ref e_y) = some false)
    (q_v : PySem.W.kitOne K (.ref e_i) (.ref e_v) = some true)
    (q_m : PySem.W.kitOne K (.ref e_i) (.ref e_m) = some false)
    (q_z : PySem.W.kitOne K (.ref e_i) (.ref e_z) = some false)
    (hg : PySem.W.findIn K (.ref e_i) "__getattribute__" = some (some (.builtin "BaseException.__getattribute__")))
    (hk : PySem.W.findIn K (.ref e_i) "__getattr__" = some none)
    (hs : PySem.W.subIn K (.ref e_i) (.type "BaseException") = some true)
    (hdi : PySem.W.hasDictIn K e_i = true)
    (hac : PySem.W.findIn K (.ref e_i) "__class__" = some (some (.builtin "object.__class__")))
    (hnc : PySem.W.specialIn K (.builtin "object.__class__") "__get__" = some (some (.builtin "getset_descriptor.__get__")))
    (htc : PySem.W.takesIn K (.builtin "object.__class__") = some true)
    (hmo : PySem.W.mroIn K e_i (.type "object") = some true)
    (ne_v : ((Value.ref e_i) == (Value.ref e_v)) = false)
    (ne_m : ((Value.ref e_i) == (Value.ref e_m)) = false)
    (ne_z : ((Value.ref e_i) == (Value.ref e_z)) = false)
    (sb_v : PySem.W.subIn K (.ref e_v) (.type "BaseException") = some true)
    (sb_m : PySem.W.subIn K (.ref e_m) (.type "BaseException") = some true)
    (sb_z : PySem.W.subIn K (.ref e_z) (.type "BaseException") = some true)
    (ocls : K.lookup e_i = some (excClassObj oNm oQ e_i oN oBs oBm true oSn oSub oAb oCol oDd oK0 oK1 oK2 oK3 oK5 "ValueError.__new__"))
    (ove : PySem.HandSPX.refsVE oBm = true)
    (osa : PySem.W.findIn K (.ref e_i) "__setattr__" = some (some (.builtin "object.__setattr__")))
    (oty : PySem.W.typeIn K (.ref e_i) = some (.type "type"))
    (okc : PySem.W.keepIn K (.ref e_i) = true)
    (eia : PySem.W.findIn K (.ref e_i) "__init__" = some (some (.ref fEr)))
    (eit : PySem.W.typeIn K (.ref fEr) = some (.type "function"))
    (eno : PySem.W.findIn K (.ref e_i) "index" = some none)
    (lEr : K.lookup fEr = some ⟨ocEr, odEr, .func (PySem.W.fnOf "__init__" "InvalidTies.__init__" (defArgs sErrT) (defBody sErrT) (defScope sErrT) .none kVEr dcEr pmEr anEr cdEr ctEr), slEr⟩)
    (cEr : PySem.W.codeIn K cdEr "InvalidTies.__init__" = true)
    (kEr : PySem.W.keepIn K (.ref fEr) = true)
    (cdE : cdRgt = .ref cR)
    (lCd : K.lookup cR = some ⟨ocC, odC, .fields vsC, slC⟩)
    (vCd : (vsC[11]? : Option Value) = some (.ref D))
    (nD : (K.map (·.1)).contains D = false) :
    ∃ (fd : FuncData) (c D : Addr), PySem.W.tabIn K "_law_right" = some (c, D) ∧ K.lookup D = none ∧ (∀ (s : Shared) (v : Value), BindsTo s fd ⟨[v], []⟩ [("_law_script", v)]) ∧
      ∀ base : Heap, K.In base → base.Ns mainGlobals mg → TabB base mg c D → FnG l.prog w K mg base CX0 NLAW fa fd ["_law_script"] (spLawD K D) := by
  have e := hfa.symm.trans (PySem.W.mg_of X G aLaw)
  cases e
  cases cdE
  have no : ∀ {x : Str}, PySem.W.nsIn K mainGlobals x = some none → mg x = none := fun z => PySem.W.mg_none_of X G z
  have B : TB mg := ⟨no zlen, no zint, no zabs, no zdivmod, no zrange, no ztuple⟩
  have N : TN mg := ⟨no zisinstance, no zstr, no zlen, no zall, ⟨_, PySem.W.mg_of X G vLet⟩, ⟨_, PySem.W.mg_of X G vSgn⟩, ⟨_, PySem.W.mg_of X G vMst⟩⟩
  have TCv : TC mg := ⟨N, no ztuple, no zenumerate, ⟨_, PySem.W.mg_of X G vMpt⟩⟩
  have W : TW K mg C := ⟨TCv, ⟨pg, hd, po, sa⟩, n_parts, n_ties, PySem.W.mg_of X G aC⟩
  have L : TL mg := ⟨B, no zrepr, no zall, no zmax, no zmin⟩
  have TE : TE20 mg := ⟨no zisinstance, no zrepr, no zrange, no zlen⟩
  have ME : EMg mg ⟨e_t, e_n, e_w, e_p, e_i, e_l, e_s, e_a, e_u, e_e, e_k, e_y, e_v, e_m, e_z⟩ := ⟨PySem.W.mg_of X G x_t, PySem.W.mg_of X G x_n, PySem.W.mg_of X G x_w, PySem.W.mg_of X G x_p, PySem.W.mg_of X G x_i, PySem.W.mg_of X G x_l, PySem.W.mg_of X G x_s, PySem.W.mg_of X G x_a, PySem.W.mg_of X G x_u, PySem.W.mg_of X G x_e, PySem.W.mg_of X G x_k, PySem.W.mg_of X G x_y, PySem.W.mg_of X G x_v, PySem.W.mg_of X G x_m, PySem.W.mg_of X G x_z⟩
  have XC : ExcC K e_i := ⟨hg, hk, hs, hdi, hac, hnc, htc, hmo⟩
  have XF : XfC K e_i := ⟨hg, hk, hs, hdi⟩
  have KD : Kind K ⟨e_t, e_n, e_w, e_p, e_i, e_l, e_s, e_a, e_u, e_e, e_k, e_y, e_v, e_m, e_z⟩ e_i 4 0 := ⟨XC, XF, any_of (exm_of ne_v q_v sb_v) (exm_of ne_m q_m sb_m) (exm_of ne_z q_z sb_z) rfl, q_t, q_n, q_w, q_p, q_i, q_l, q_s, q_a, q_u, q_e, q_k, q_y, q_v, q_m, q_z⟩
  have OX : OexC K e_i := ⟨⟨_, _, _, _, _, _, _, _, _, _, _, _, _, _, _, ocls, ove⟩, osa, hs, oty, okc⟩
  have FErr := fun_mk (st := sErrT) (x := "__init__") (qual := "InvalidTies.__init__") lEr cEr kEr
  have bErr := FErr.binds (ps := ["self", "index"]) fun _ _ _ _ _ _ us hl => match us, hl with | [_, _], _ => rfl
  have EC : ErrC K mg "InvalidTies" "index" e_i fEr := ⟨OX, eia, eit, PySem.W.mg_of X G x_i, eno⟩
  have FSip := fun_mk (st := sSip) lSip cSip kSip
  have DSip : DefAt K mg "_law_sip" ["_law_jug_here", "_law_most"] sSip _ _ := ⟨FSip, PySem.W.mg_of X G aSip, kSip, FSip.binds (ps := ["_law_jug_here", "_law_most"]) fun _ _ _ _ _ _ us hl => match us, hl with | [_, _], _ => rfl⟩
  have FJug := fun_mk (st := sJug) lJug cJug kJug
  have DJug : DefAt K mg "_law_jug" ["_law_script", "_law_at"] sJug _ _ := ⟨FJug, PySem.W.mg_of X G aJug, kJug, FJug.binds (ps := ["_law_script", "_law_at"]) fun _ _ _ _ _ _ us hl => match us, hl with | [_, _], _ => rfl⟩
  have FHds := fun_mk (st := sHeads) lHds cHds kHds
  have DHds : DefAt K mg "_law_heads" ["_law_jug_here", "_law_most_here"] sHeads _ _ := ⟨FHds, PySem.W.mg_of X G aHds, kHds, FHds.binds (ps := ["_law_jug_here", "_law_most_here"]) fun _ _ _ _ _ _ us hl => match us, hl with | [_, _], _ => rfl⟩
  have FRds := fun_mk (st := sRoads) lRds cRds kRds
  have DRds : DefAt K mg "_law_roads" ["_law_jug_here", "_law_heads_here"] sRoads _ _ := ⟨FRds, PySem.W.mg_of X G aRds, kRds, FRds.binds (ps := ["_law_jug_here", "_law_heads_here"]) fun _ _ _ _ _ _ us hl => match us, hl with | [_, _], _ => rfl⟩
  have FBnt := fun_mk (st := sBentT) lBnt cBnt kBnt
  have DBnt : DefAt K mg "_law_bent" ["_law_jug_here", "_law_heads_here", "_law_roads_here"] sBentT _ _ := ⟨FBnt, PySem.W.mg_of X G aBnt, kBnt, FBnt.binds (ps := ["_law_jug_here", "_law_heads_here", "_law_roads_here"]) fun _ _ _ _ _ _ us hl => match us, hl with | [_, _, _], _ => rfl⟩
  have FEnd := fun_mk (st := sEnded) lEnd cEnd kEnd
  have DEnd : DefAt K mg "_law_ended" ["_law_act"] sEnded _ _ := ⟨FEnd, PySem.W.mg_of X G aEnd, kEnd, FEnd.binds (ps := ["_law_act"]) fun _ _ _ _ _ _ us hl => match us, hl with | [_], _ => rfl⟩
  have FIsE := fun_mk (st := sIsEnded) lIsE cIsE kIsE
  have DIsE : DefAt K mg "_law_is_ended" ["_law_acts", "_law_due_here"] sIsEnded _ _ := ⟨FIsE, PySem.W.mg_of X G aIsE, kIsE, FIsE.binds (ps := ["_law_acts", "_law_due_here"]) fun _ _ _ _ _ _ us hl => match us, hl with | [_, _], _ => rfl⟩
  have FDue := fun_mk (st := sDueT) lDue cDue kDue
  have DDue : DefAt K mg "_law_due" ["_law_heads_here", "_law_thing"] sDueT _ _ := ⟨FDue, PySem.W.mg_of X G aDue, kDue, FDue.binds (ps := ["_law_heads_here", "_law_thing"]) fun _ _ _ _ _ _ us hl => match us, hl with | [_, _], _ => rfl⟩
  have FNam := fun_mk (st := sName) lNam cNam kNam
  have DNam : DefAt K mg "is_name" ["value"] sName _ _ := ⟨FNam, PySem.W.mg_of X G aNam, kNam, FNam.binds (ps := ["value"]) fun _ _ _ _ _ _ us hl => match us, hl with | [_], _ => rfl⟩
  have FAmg := fun_mk (st := sAmong) lAmg cAmg kAmg
  have DAmg : DefAt K mg "is_among" ["value", "names"] sAmong _ _ := ⟨FAmg, PySem.W.mg_of X G aAmg, kAmg, FAmg.binds (ps := ["value", "names"]) fun _ _ _ _ _ _ us hl => match us, hl with | [_, _], _ => rfl⟩
  have FPrt := fun_mk (st := sParts) lPrt cPrt kPrt
  have DPrt : DefAt K mg "_check_parts" ["parts"] sParts _ _ := ⟨FPrt, PySem.W.mg_of X G aPrt, kPrt, FPrt.binds (ps := ["parts"]) fun _ _ _ _ _ _ us hl => match us, hl with | [_], _ => rfl⟩
  have FPai := fun_mk (st := sPair) lPai cPai kPai
  have DPai : DefAt K mg "is_pair" ["value", "names"] sPair _ _ := ⟨FPai, PySem.W.mg_of X G aPai, kPai, FPai.binds (ps := ["value", "names"]) fun _ _ _ _ _ _ us hl => match us, hl with | [_, _], _ => rfl⟩
  have FTie := fun_mk (st := sTies) lTie cTie kTie
  have DTie : DefAt K mg "_check_ties" ["ties", "parts"] sTies _ _ := ⟨FTie, PySem.W.mg_of X G aTie, kTie, FTie.binds (ps := ["ties", "parts"]) fun _ _ _ _ _ _ us hl => match us, hl with | [_, _], _ => rfl⟩
  have FRgt := fun_mk (st := sRight) lRgt cRgt kRgt
  have DRgt : DefAt K mg "_law_right" ["_law_jug_here"] sRight _ _ := ⟨FRgt, PySem.W.mg_of X G aRgt, kRgt, FRgt.binds (ps := ["_law_jug_here"]) fun _ _ _ _ _ _ us hl => match us, hl with | [_], _ => rfl⟩
  have FQui := fun_mk (st := sQuiet) lQui cQui kQui
  have DQui : DefAt K mg "_law_quiet" ["_law_jug_here"] sQuiet _ _ := ⟨FQui, PySem.W.mg_of X G aQui, kQui, FQui.binds (ps := ["_law_jug_here"]) fun _ _ _ _ _ _ us hl => match us, hl with | [_], _ => rfl⟩
  have FIni : FunD K "__init__" "Works.__init__" (defArgs sInit) (defBody sInit) (defScope sInit) [.ref eIni] [] fIni _ :=
    ⟨⟨_, _, _, _, _, _, _, _, _, _, rfl, lIni, cIni, .inr ⟨nofun, TIni, _, [.ref eIni], _, rfl, tIni, rfl, .cons rfl .nil⟩, .inl rfl⟩, kIni⟩
  obtain ⟨ds, vds, bIni⟩ := FIni.binds1 (ps := ["self", "parts", "ties"]) 3 1 nofun rfl fun T kV doc pm an cdv ct us its h1 h2 => match us, its, h1, h2 with | [_, _, _], [_], _, _ => ⟨_, rfl, rfl⟩
  cases vds
  have kIni := kb_all (ps := ["self", "parts", "ties"]) FIni 1 ["ties", "parts"] (fun us ws => us ++ ws.reverse) nofun vals_swap fun T kV doc pm an cdv ct us its ws h1 h2 h3 => match us, its, ws, h1, h2, h3 with | [_], [_], [_, _], _, _, _ => ⟨_, rfl, rfl⟩
  have FTis := fun_mk (st := sGetT) (x := "ties") (qual := "Works.ties") lTis cTis kTis
  have bTis := FTis.binds (ps := ["self"]) fun _ _ _ _ _ _ us hl => match us, hl with | [_], _ => rfl
  refine ⟨PySem.W.fnOf "law" "law" (defArgs sLaw) (defBody sLaw) (defScope sLaw) .none kVLaw dcLaw pmLaw anLaw cdLaw ctLaw, cR, D, tab_mk aRgt lRgt rfl lCd vCd, look_of nD, fun s v => .of_eq rfl, fun base _ _ TBD => ?_⟩
  have GErr := ok_err (P := l.prog) (w := w) (mg := mg) (base := base) (ex := CX0) FErr (n := "index") ⟨rfl, rfl, rfl, by decide +kernel, rfl, by decide +kernel, by decide +kernel⟩ OX eno rfl (.inl rfl) (.inl rfl) rfl rfl
  have GPai := ok_pair (P := l.prog) (w := w) (base := base) FPai TCv DAmg
  have GTie := ok_tiesX (P := l.prog) (w := w) (base := base) FTie TCv DPai GPai EC GErr bErr
  have GPrt := ok_parts (P := l.prog) (w := w) (base := base) FPrt TCv DNam
  have GIni := ok_initY FIni W DPrt GPrt DTie GTie
  have GTis := ok_getT (P := l.prog) (w := w) (base := base) FTis W
  have GHds := ok_heads (P := l.prog) (w := w) (base := base) FHds B DSip
  have GRds := ok_roads (P := l.prog) (w := w) (base := base) FRds B DSip
  have GBnt := ok_bentT (P := l.prog) (w := w) (base := base) FBnt B DSip
  have GDue := ok_dueT (P := l.prog) (w := w) (base := base) FDue TCv (no zrepr) (no zrange)
  have GEnd := ok_ended (P := l.prog) (w := w) (base := base) (n := 6) FEnd TE ME
  have GIsE := ok_isEnded FIsE TE DEnd GEnd
  have GRgt := ok_rightT FRgt rfl TBD L (no zlist) W DSip DHds GHds DRds GRds DBnt GBnt DDue GDue DIsE GIsE ⟨mk, aIni, iIni, kc⟩ GIni bIni kIni ⟨aTis, gTis, tTis, ⟨_, rTis⟩⟩ GTis bTis KD eno
  exact ok_law (fun_mk (st := sLaw) lLaw cLaw kLaw) L DQui (ok_quiet FQui DRgt GRgt) DJug
end Fs
open PySem PySem.W PyProof.Rows in
set_option maxRecDepth 100000 in
set_option maxHeartbeats 0 in
theorem PySem.Challenge.cw_forcedsteer_k04_ties_refused_holds : PySem.Challenge.rw_forcedsteer_k04_ties_refused.Holds := by
  w_on; o_law; k_head; (case hw => w_witness2)
  k_fill
  refine Fs.walk_endT (l := PySem.Challenge.rw_forcedsteer_k04_ties_refused) (n := Fs.NLAW) (m := 63) (sp := Fs.spLawD) (x := "_law_script") (y := "_law_right") rfl (by decide) rfl ⟨rfl, by decide, by decide⟩ (fun w h Y => PySem.W.km_in_of Y) (by rfl) ?F (fun K D G a is few hD h => ⟨a, is, rfl, few, h, Fs.tabs_nil hD, fun _ => rfl⟩)
  case F =>
    intro w mg fa h KX G hmg
    refine' Fs.all_mk KX G hmg ?aSip ?lSip ?cSip ?kSip ?aJug ?lJug ?cJug ?kJug ?aHds ?lHds ?cHds ?kHds ?aRds ?lRds ?cRds ?kRds ?aBnt ?lBnt ?cBnt ?kBnt ?aEnd ?lEnd ?cEnd ?kEnd ?aIsE ?lIsE ?cIsE ?kIsE ?aDue ?lDue ?cDue ?kDue ?aNam ?lNam ?cNam ?kNam ?aAmg ?lAmg ?cAmg ?kAmg ?aPrt ?lPrt ?cPrt ?kPrt ?aPai ?lPai ?cPai ?kPai ?aTie ?lTie ?cTie ?kTie ?aRgt ?lRgt ?cRgt ?kRgt ?aQui ?lQui ?cQui ?kQui ?aLaw ?lLaw ?cLaw ?kLaw ?aC ?aIni ?iIni ?lIni ?tIni ?cIni ?kIni ?aTis ?gTis ?tTis ?rTis ?lTis ?cTis ?kTis ?pg ?hd ?po ?sa ?mk ?kc ?n_parts ?n_ties ?zlen ?zint ?zabs ?zdivmod ?zrange ?ztuple ?zrepr ?zall ?zmax ?zmin ?zisinstance ?zstr ?zenumerate ?zlist ?vLet ?vSgn ?vMst ?vMpt ?x_t ?x_n ?x_w ?x_p ?x_i ?x_l ?x_s ?x_a ?x_u ?x_e ?x_k ?x_y ?x_v ?x_m ?x_z ?q_t ?q_n ?q_w ?q_p ?q_i ?q_l ?q_s ?q_a ?q_u ?q_e ?q_k ?q_y ?q_v ?q_m ?q_z ?hg ?hk ?hs ?hdi ?hac ?hnc ?htc ?hmo ?ne_v ?ne_m ?ne_z ?sb_v ?sb_m ?sb_z ?ocls ?ove ?osa ?oty ?okc ?eia ?eit ?eno ?lEr ?cEr ?kEr ?cdE ?lCd ?vCd ?nD
    (case aSip => first | k_is | kit_is)
    (case lSip => first | k_is | kit_is)
    (case cSip => first | k_is | kit_is)
    (case kSip => first | k_is | kit_is)
    (case aJug => first | k_is | kit_is)
    (case lJug => first | k_is | kit_is)
    (case cJug => first | k_is | kit_is)
    (case kJug => first | k_is | kit_is)
    (case aHds => first | k_is | kit_is)
    (case lHds => first | k_is | kit_is)
    (case cHds => first | k_is | kit_is)
    (case kHds => first | k_is | kit_is)
    (case aRds => first | k_is | kit_is)
    (case lRds => first | k_is | kit_is)
    (case cRds => first | k_is | kit_is)
    (case kRds => first | k_is | kit_is)
    (case aBnt => first | k_is | kit_is)
    (case lBnt => first | k_is | kit_is)
    (case cBnt => first | k_is | kit_is)
    (case kBnt => first | k_is | kit_is)
    (case aEnd => first | k_is | kit_is)
    (case lEnd => first | k_is | kit_is)
    (case cEnd => first | k_is | kit_is)
    (case kEnd => first | k_is | kit_is)
    (case aIsE => first | k_is | kit_is)
    (case lIsE => first | k_is | kit_is)
    (case cIsE => first | k_is | kit_is)
    (case kIsE => first | k_is | kit_is)
    (case aDue => first | k_is | kit_is)
    (case lDue => first | k_is | kit_is)
    (case cDue => first | k_is | kit_is)
    (case kDue => first | k_is | kit_is)
    (case aNam => first | k_is | kit_is)
    (case lNam => first | k_is | kit_is)
    (case cNam => first | k_is | kit_is)
    (case kNam => first | k_is | kit_is)
    (case aAmg => first | k_is | kit_is)
    (case lAmg => first | k_is | kit_is)
    (case cAmg => first | k_is | kit_is)
    (case kAmg => first | k_is | kit_is)
    (case aPrt => first | k_is | kit_is)
    (case lPrt => first | k_is | kit_is)
    (case cPrt => first | k_is | kit_is)
    (case kPrt => first | k_is | kit_is)
    (case aPai => first | k_is | kit_is)
    (case lPai => first | k_is | kit_is)
    (case cPai => first | k_is | kit_is)
    (case kPai => first | k_is | kit_is)
    (case aTie => first | k_is | kit_is)
    (case lTie => first | k_is | kit_is)
    (case cTie => first | k_is | kit_is)
    (case kTie => first | k_is | kit_is)
    (case aRgt => first | k_is | kit_is)
    (case lRgt => first | k_is | kit_is)
    (case cRgt => first | k_is | kit_is)
    (case kRgt => first | k_is | kit_is)
    (case aQui => first | k_is | kit_is)
    (case lQui => first | k_is | kit_is)
    (case cQui => first | k_is | kit_is)
    (case kQui => first | k_is | kit_is)
    (case aLaw => first | k_is | kit_is)
    (case lLaw => first | k_is | kit_is)
    (case cLaw => first | k_is | kit_is)
    (case kLaw => first | k_is | kit_is)
    (case aC => first | k_is | kit_is)
    (case aIni => first | k_is | kit_is)
    (case iIni => first | k_is | kit_is)
    (case lIni => first | k_is | kit_is)
    (case tIni => first | k_is | kit_is)
    (case cIni => first | k_is | kit_is)
    (case kIni => first | k_is | kit_is)
    (case aTis => first | k_is | kit_is)
    (case gTis => first | k_is | kit_is)
    (case tTis => first | k_is | kit_is)
    (case rTis => first | k_is | kit_is)
    (case lTis => first | k_is | kit_is)
    (case cTis => first | k_is | kit_is)
    (case kTis => first | k_is | kit_is)
    (case pg => first | k_is | kit_is)
    (case hd => first | k_is | kit_is)
    (case po => first | k_is | kit_is)
    (case sa => first | k_is | kit_is)
    (case mk => first | k_is | kit_is)
    (case kc => first | k_is | kit_is)
    (case n_parts => first | k_is | kit_is)
    (case n_ties => first | k_is | kit_is)
    (case zlen => first | k_is | kit_is)
    (case zint => first | k_is | kit_is)
    (case zabs => first | k_is | kit_is)
    (case zdivmod => first | k_is | kit_is)
    (case zrange => first | k_is | kit_is)
    (case ztuple => first | k_is | kit_is)
    (case zrepr => first | k_is | kit_is)
    (case zall => first | k_is | kit_is)
    (case zmax => first | k_is | kit_is)
    (case zmin => first | k_is | kit_is)
    (case zisinstance => first | k_is | kit_is)
    (case zstr => first | k_is | kit_is)
    (case zenumerate => first | k_is | kit_is)
    (case zlist => first | k_is | kit_is)
    (case vLet => first | k_is | kit_is)
    (case vSgn => first | k_is | kit_is)
    (case vMst => first | k_is | kit_is)
    (case vMpt => first | k_is | kit_is)
    (case x_t => first | k_is | kit_is)
    (case x_n => first | k_is | kit_is)
    (case x_w => first | k_is | kit_is)
    (case x_p => first | k_is | kit_is)
    (case x_i => first | k_is | kit_is)
    (case x_l => first | k_is | kit_is)
    (case x_s => first | k_is | kit_is)
    (case x_a => first | k_is | kit_is)
    (case x_u => first | k_is | kit_is)
    (case x_e => first | k_is | kit_is)
    (case x_k => first | k_is | kit_is)
    (case x_y => first | k_is | kit_is)
    (case x_v => first | k_is | kit_is)
    (case x_m => first | k_is | kit_is)
    (case x_z => first | k_is | kit_is)
    (case q_t => first | k_is | kit_is)
    (case q_n => first | k_is | kit_is)
    (case q_w => first | k_is | kit_is)
    (case q_p => first | k_is | kit_is)
    (case q_i => first | k_is | kit_is)
    (case q_l => first | k_is | kit_is)
    (case q_s => first | k_is | kit_is)
    (case q_a => first | k_is | kit_is)
    (case q_u => first | k_is | kit_is)
    (case q_e => first | k_is | kit_is)
    (case q_k => first | k_is | kit_is)
    (case q_y => first | k_is | kit_is)
    (case q_v => first | k_is | kit_is)
    (case q_m => first | k_is | kit_is)
    (case q_z => first | k_is | kit_is)
    (case hg => first | k_is | kit_is)
    (case hk => first | k_is | kit_is)
    (case hs => first | k_is | kit_is)
    (case hdi => first | k_is | kit_is)
    (case hac => first | k_is | kit_is)
    (case hnc => first | k_is | kit_is)
    (case htc => first | k_is | kit_is)
    (case hmo => first | k_is | kit_is)
    (case ne_v => first | rfl | decide +kernel)
    (case ne_m => first | rfl | decide +kernel)
    (case ne_z => first | rfl | decide +kernel)
    (case sb_v => first | k_is | kit_is)
    (case sb_m => first | k_is | kit_is)
    (case sb_z => first | k_is | kit_is)
    (case ocls => first | k_is | kit_is)
    (case ove => decide +kernel)
    (case osa => first | k_is | kit_is)
    (case oty => first | k_is | kit_is)
    (case okc => first | k_is | kit_is)
    (case eia => first | k_is | kit_is)
    (case eit => first | k_is | kit_is)
    (case eno => first | k_is | kit_is)
    (case lEr => first | k_is | kit_is)
    (case cEr => first | k_is | kit_is)
    (case kEr => first | k_is | kit_is)
    (case cdE => rfl)
    (case lCd => first | k_is | kit_is)
    (case vCd => rfl)
    (case nD => kernel_rfl)
