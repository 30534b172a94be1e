import PyProof.Rows.All
import Wide.All
import OpenK.AllK
import Wide.FinOn
import HandS.ForMost
import HandS.ForExc
import HandS.IsInst
import HandS.MakeKwOnly
import HandS.ClsMeth
import HandS.Conv
import HandS.Codes
import HandS.Walk
import HandS.Style
import HandS.Flow
import HandS.Wide
import HandS.OwnEq
import HandS.OwnIter
import HandS.IterVal
import KE.KOwnIter
import PyProof.FactsAll.tuple_iterator_1
import HandS.Deep
import HandS.SortRule
import KE.GoesMore
import KE.GoesEnum
import KE.KLam
import KE.DataMinKey
import HandS.Base
import HandS.Call
import HandS.List
import HandS.Comp
import HandS.Lambda
import HandS.Nested
import HandS.Keys
import HandS.SortInts
import PyProof.NeKinds
import HandS.SetFor
import HandS.Strs
import HandS.TupSets
import KE.SortData
import HandS.TupAny
import KE.KNestM
import HandS.EndTab
import HandS.Rev
import PySem.Challenge.RW_heaprows_k26_whole_looks
set_option Elab.async false
set_option maxRecDepth 100000
set_option Elab.async false
set_option linter.all false
set_option maxRecDepth 100000
set_option maxHeartbeats 2000000
namespace Tw
open PySem PySem.Spec PyProof.Rows L2

/-! own rules: an instance with dunder methods -/
/-- a dunder method of the class at C, its def at f -/
structure Dn (K : PySem.W.Frag) (C : Addr) (m : Str) (f : Addr) : Prop where
  at_ : PySem.W.findIn K (.ref C) m = some (some (.ref f))
  fn : PySem.W.isFn K (.ref f) = true
  fi : PySem.W.fnIn K f = true


section
variable {X : Cx} {CX : CXT} {k n : Nat} {f C : Addr} {fd : FuncData} {ps : List Str} {sp : Sp} {E : XK} {o e : Expr} {pos : Pos} {ta tb : TE} {A1 : Around}
  {pins : List (Addr × Obj)} {σ : L2.St} {H : Hp} {s : Shared} {Q : VK}
theorem Sub.env0 (sb : Sub X n A1) (I : Inv X pins σ H s) : Env0 X.prog X.w X.K X.mg X.base A1 X.stack s H := by
  have q := I.env0
  exact ⟨by rw [sb.fr]; exact q.frames, q.mod, q.bs, q.bsz, q.funs, q.frf, q.hok, q.bare⟩
theorem run_sub {us : List Value} {vs : List V} (F : FnOk X.prog X.w X.K X.mg X.base CX k f fd ps sp) (sb : Sub X k A1) (hb : Binds X.K fd ps []) (hx : Passes CX X E) (I : Inv X pins σ H s) (r : Vals vs us) (h : sp vs H Q E) :
    wpAny (model X.prog X.w) A1 (call (.ref f) us) (EP X pins σ Q) X.xe s := by
  have hl : us.length = ps.length := by rw [← r.length]; exact F.len _ _ _ _ h
  have hb1 : BindsTo s fd ⟨us, []⟩ (ps.zip us) := by
    have z := hb s us I.kIn (by rw [List.append_nil]; exact hl)
    rw [List.append_nil] at z
    exact z
  refine wpAny_call (codeAny_mono (F.run A1 X.stack s H ⟨us, []⟩ us vs Q E sb.room (Sub.env0 sb I) hb1 r h) fun z s' hq => ?_)
  match z, hq with
  | .error e, hq => exact hx pins σ H s e s' I hq
  | .ok (.ret u), hq => exact I.after hq
  | .ok .next, hq => exact False.elim hq
  | .ok .brk, hq => exact False.elim hq
  | .ok .cont, hq => exact False.elim hq
theorem relR (a : Addr) : RelV (V.ref a) (Value.ref a) := rfl
theorem relB (b : Bool) : RelV (V.bl b) (Value.bool b) := rfl
theorem relI (i : Int) (t : Tok) : RelV (V.int i) (Value.int i t) := ⟨t, rfl⟩
/-- o[e] by the class's own def -/
def tGi (C : Addr) (sp : Sp) (E : XK) (ta tb : TE) : TE := fun σ H Q => ta σ H fun x H1 => tb σ H1 fun y H2 =>
  ∃ a dx fs, x = .ref a ∧ H2 a = some (.ins C dx fs) ∧ sp [.ref a, y] H2 Q E
theorem pe_gi (hd : Dn X.K C "__getitem__" f) (F : FnOk X.prog X.w X.K X.mg X.base CX k f fd ps sp) (hr : Room (k + 1) X.A) (hb : Binds X.K fd ps []) (hx : Passes CX X E) (ho : PE X o ta) (he : PE X e tb)
    (hs : ∀ v u, subscripted e true v u = runValue (.builtin "lifetime.subscript" ⟨[v, u], []⟩) := by intro _ _; with_unfolding_all rfl) :
    PE X (.Subscript o e pos) (tGi C sp E ta tb) := by
  refine ⟨fun pins s σ H Q I h => ?_⟩
  refine Subscript_ (binT ho he (R := fun x y H2 => ∃ a dx fs, x = .ref a ∧ H2 a = some (.ins C dx fs) ∧ sp [.ref a, y] H2 Q E) I h fun v u s2 x y H2 I2 rx ry ⟨a, dx, fs, ex, ha, q⟩ => ?_)
  subst ex
  obtain rfl : v = Value.ref a := rx
  obtain ⟨mA, O, rr, _, _, _⟩ := ins_get I2.hok ha
  obtain ⟨od, J, hl⟩ := O.look
  obtain ⟨m0, hF⟩ := I2.fr
  exact PySem.W.sub_K hF I2.ok.mod.kin J hd.at_ hd.fi hd.fn (run_sub F (Sub.in1 ⟨hr, rfl⟩) hb hx I2 (.cons (relR a) (.cons ry .nil)) q) (hs _ _)
/-- e in o, by the class's own def -/
def rIn (C : Addr) (sp : Sp) (E : XK) (neg : Bool) : R2 := fun x y H Q =>
  ∃ a dx fs, y = .ref a ∧ H a = some (.ins C dx fs) ∧ sp [.ref a, x] H (fun v H' => ∃ b, v = .bl b ∧ Q (.bl (if neg then !b else b)) H') E
theorem op_in_own (hd : Dn X.K C "__contains__" f) (F : FnOk X.prog X.w X.K X.mg X.base CX k f fd ps sp) (hr : Room k X.A) (hb : Binds X.K fd ps []) (hx : Passes CX X E) : OpR X (compareOp .In) (rIn C sp E false) := by
  intro pins s σ H x y v u Q I rx ry ⟨a, dx, fs, ey, ha, q⟩
  subst ey
  obtain rfl : u = Value.ref a := ry
  obtain ⟨mA, O, rr, _, _, _⟩ := ins_get I.hok ha
  obtain ⟨od, J, hl⟩ := O.look
  obtain ⟨m0, hF⟩ := I.fr
  refine PySem.W.in_K hF I.ok.mod.kin J hd.at_ hd.fn (thn (run_sub F ⟨hr, rfl⟩ hb hx I (.cons (relR a) (.cons rx .nil)) q) fun r s' ⟨z, H', I', rz, b, ez, q'⟩ => ?_)
  subst ez
  obtain rfl : r = Value.bool b := rz
  exact wpAny_truthy_bool ⟨_, _, I', relB b, q'⟩
/-- len(o) by the class's own def -/
def rLenO (C : Addr) (sp : Sp) (E : XK) : List V → Hp → VK → Prop := fun xs H Q =>
  ∃ a dx fs, xs = [.ref a] ∧ H a = some (.ins C dx fs) ∧ sp [.ref a] H (fun v H' => ∃ n : Nat, v = .int n ∧ n < 1000 ∧ Q (.int n) H') E
theorem call_len_own (hd : Dn X.K C "__len__" f) (F : FnOk X.prog X.w X.K X.mg X.base CX k f fd ps sp) (hr : Room (k + 1) X.A) (hb : Binds X.K fd ps []) (hx : Passes CX X E) : CallR X (.builtin "len") (rLenO C sp E) := by
  intro pins s σ H xs us Q I rv ⟨a, dx, fs, ex, ha, q⟩
  subst ex
  obtain ⟨u, rfl, ru⟩ := rv.one
  obtain rfl : u = Value.ref a := ru
  obtain ⟨mA, O, rr, _, _, _⟩ := ins_get I.hok ha
  obtain ⟨od, J, hl⟩ := O.look
  obtain ⟨m0, hF⟩ := I.fr
  refine PySem.W.len_K hF I.ok.mod.kin J hd.at_ hd.fn (thn (run_sub F (Sub.in1 ⟨hr, rfl⟩) hb hx I (.cons (relR a) .nil) q) fun r s' ⟨z, H', I', rz, n, ez, hn, q'⟩ => ?_)
  subst ez
  obtain ⟨t, rfl⟩ := rz
  exact ⟨⟨by omega, by omega⟩, _, _, I'.tok _, relI _ _, q'⟩
end

/-! for x in o, o an instance whose __iter__ says: return iter(self.F), F a tuple -/
def itTup (t : Addr) (i : Nat) : Obj := { cls := .type "tuple_iterator", data := .fields #[.ref t, .int (i : Nat) 0] }
def ItT (t it : Addr) (i : Nat) : HO := .ext fun h => h.get? it = some (itTup t i)
def rIterT (K : PySem.W.Frag) (n : Nat) : List V → Hp → VK → Prop := fun xs H Q => ∃ (t : Addr) (zs : List V), xs = [.ref t] ∧ SqT K H t zs ∧ ∀ it, H it = Option.none → n ≤ it → Q (.ref it) (upd H it (ItT t it 0))
section
variable {X : Cx}
theorem call_iterT : CallR X (.builtin "iter") (rIterT X.K X.s_0.heap.objs.size) := by
  intro pins s σ H xs us Q I r ⟨t, zs, e, hq, q⟩
  subst e
  obtain ⟨u, rfl, ru⟩ := r.one
  obtain rfl : u = Value.ref t := ru
  obtain ⟨its, rv, pl, hz⟩ := I.tuple hq
  refine Calls.call_function_entry (by decide +kernel) (by decide +kernel) PySem.W.kdk_entry_iter (PySem.W.kdk_args_iter _) ?_
  unfold Builtin.«iter»
  refine wpAny_bind (m := someArgs "iter" 1 2 _) (wpAny_of_eq (a := [Value.ref t]) (by first | rfl | kernel_rfl!) ?_)
  show wpAny _ _ (pyIter (.ref t) >>= _) _ _ _
  refine wpAny_bind (wpAny_pyIter_tuple (show s.heap.IsTuple t its.toArray from pl) ?_)
  have g : (s.heap.push (itTup t 0)).get? s.heap.objs.size = some (itTup t 0) := Heap.get?_push_size _ rfl
  have ok : ObjOk X.prog X.w (upd H s.heap.objs.size (ItT t s.heap.objs.size 0)) (s.heap.push (itTup t 0)) s.heap.objs.size (ItT t s.heap.objs.size 0) := ⟨g, ⟨_, g⟩, fun _ _ q k => k _ q⟩
  exact wpAny_pure ⟨_, rfl, .ref s.heap.objs.size, _, I.laid (t' := s.toks) (fun b u e => Heap.get?_push_of_some _ e) (Nat.le_refl _) ok, relR _, q _ (I.hok.fresh (Nat.le_refl _)) I.sz⟩
end

/-- a promise that may speak of how many objects there are when the def is called -/
def FnIt (P : Program) (w : World) (K : PySem.W.Frag) (mg : Str → Option Value) (base : Heap) (k : Nat) (f : Addr) (fd : FuncData) (ps : List Str) (sp : Nat → List V → Hp → VK → Prop) : Prop :=
  ∀ (A : Around) (outer : List Env) (s : Shared) (H : Hp) (us : List Value) (vs : List V) (Q : VK), Room k A → Env0 P w K mg base A outer s H → BindsTo s fd ⟨us, []⟩ (ps.zip us) → vs.length = ps.length → Vals vs us →
    sp s.heap.objs.size vs H Q → codeAny (model P w) A (.call (.ref f) ⟨us, []⟩) (CR CX0 outer P w H s Q E0) s
section
variable {P : Program} {w : World} {K : PySem.W.Frag} {mg : Str → Option Value} {base : Heap}
theorem fnIt_of {x qual : Str} {st : Stmt} {f : Addr} {fd : FuncData} {N ps : List Str} {k : Nat} {sp : Nat → List V → Hp → VK → Prop} (F : Fun K x qual st f fd) (S : FnScope N ps (defScope st))
    (hbody : ∀ (cdv : Value) (A : Around) (outer : List Env) (s : Shared) (H : Hp) (vs : List V) (Q : VK), Room k (A.deeper (envOfC qual (defScope st) s.heap.objs.size f cdv)) → sp s.heap.objs.size vs H Q →
      ∃ t, PSs (cxOf CX0 P w K mg base N qual (defScope st) f cdv A outer s H E0).nox (defBody st) t ∧ t { nx := fun _ H' => Q .non H', rt := Q } (start N vs) H) : FnIt P w K mg base (k + 1) f fd ps sp := by
  obtain ⟨oc, od, kV, doc, pm, an, cdv, ct, osl, rfl, lk, hcd⟩ := F.ex
  intro A outer s H us vs Q hr e0 hb hl r hsp
  have kin : K.In s.heap := e0.mod.kin.keeps fun b o e => (e0.bs b o e).1
  have lim : s.heap.NoLimit := e0.mod.nolimit.keeps fun b o e => (e0.bs b o e).1
  have kinds : ∀ y ∈ ps.zip us, (defScope st).names.lookup y.1 = some .local ∨ ((defScope st).names.lookup y.1 = some .cell ∧ ((cellsFrom (s.heap.objs.size + 1) (defScope st).names []).lookup y.1).isSome = true) := by
    intro y hy
    cases S.par y.1 (List.of_mem_zip (a := y.1) (b := y.2) hy).1 with
    | inl q => exact .inl q
    | inr q => exact .inr ⟨q, PySem.W.cellsFrom_some _ _ _ (.inl q)⟩
  apply codeAny_call_function hr.depth (kin _ _ lk) rfl S.co S.gen rfl (PySem.W.codeRec_of kin hcd) (hb _ _ _ _ ?_)
  apply wpAny_newFunctionEnv_cells S.kind kinds
  intro env he s1 x
  subst he
  refine ⟨lim.keeps x.toInCall.keep, codeAny_func ?_⟩
  obtain ⟨t, ht, hq⟩ := hbody cdv A outer s H vs Q (hr.deeper _) hsp
  have I := inv_start (CX := CX0) (P := P) (w := w) (E := E0) (cd := cdv) (qual := qual) (f := f) (outer := outer) S hr.hd e0 hl r x
  refine wpAny_mono (ht.nox.run [] s1 (start N vs) H _ I hq) (fun fl s' hs => ?_) fun e s' hs => hs
  match fl, hs with
  | .ret u, ⟨v, σ', H', J, rv, q⟩ => exact ⟨v, H', J.os, J.bare, J.base, J.hok, rv, q⟩
  | .next, ⟨σ', H', J, q⟩ => exact ⟨V.non, H', J.os, J.bare, J.base, J.hok, rfl, q⟩
  | .brk, ⟨_, _, _, q⟩ => exact False.elim q
  | .cont, ⟨_, _, _, q⟩ => exact False.elim q
end
/-- what such an __iter__ promises -/
def spIter (K : PySem.W.Frag) (C : Addr) (fld : Str) : Nat → List V → Hp → VK → Prop := fun n vs H Q => ∃ a dx fs t zs, vs = [.ref a] ∧ H a = some (.ins C dx fs) ∧ fs.lookup fld = some (.ref t) ∧ SqT K H t zs ∧
  ∀ it, H it = Option.none → n ≤ it → Q (.ref it) (upd H it (ItT t it 0))
/-- x in o, for a loop: o's own tuple is walked -/
def iOwn (K : PySem.W.Frag) (C : Addr) (fld : Str) (to : TE) : TI := fun σ H R => to σ H fun x H1 => ∃ a dx fs t zs, x = .ref a ∧ H1 a = some (.ins C dx fs) ∧ fs.lookup fld = some (.ref t) ∧ SqT K H1 t zs ∧ R (Itt K t) H1
section
variable {X : Cx} {k : Nat} {f C : Addr} {fd : FuncData} {fld : Str} {tg o : Expr} {to : TE} {pins : List (Addr × Obj)} {σ : L2.St} {H : Hp} {s : Shared} {A1 : Around}
theorem run_iter {a t dx : Addr} {fs : List (Str × V)} {zs : List V} (F : FnIt X.prog X.w X.K X.mg X.base k f fd ["self"] (spIter X.K C fld)) (sb : Sub X k A1) (hb : Binds X.K fd ["self"] []) (I : Inv X pins σ H s)
    (ha : H a = some (.ins C dx fs)) (hf : fs.lookup fld = some (.ref t)) (ht : SqT X.K H t zs) {E : Value → Shared → Prop} :
    wpAny (model X.prog X.w) A1 (call (.ref f) [.ref a]) (fun u s' => ∃ it, u = .ref it ∧ s.heap.objs.size ≤ it ∧ H it = Option.none ∧ Inv X pins σ (upd H it (ItT t it 0)) s') E s := by
  have hb1 : BindsTo s fd ⟨[.ref a], []⟩ ((["self"] : List Str).zip [Value.ref a]) := by
    have z := hb s [.ref a] I.kIn rfl
    exact z
  refine wpAny_call (codeAny_mono (F A1 X.stack s H [.ref a] [.ref a] (fun v H' => ∃ it, v = .ref it ∧ s.heap.objs.size ≤ it ∧ H it = Option.none ∧ H' = upd H it (ItT t it 0)) sb.room (Sub.env0 sb I) hb1 rfl (.cons (relR a) .nil)
    ⟨a, dx, fs, t, zs, rfl, ha, hf, ht, fun it h0 hn => ⟨it, rfl, hn, h0, rfl⟩⟩) fun z s' hq => ?_)
  match z, hq with
  | .error e, hq => exact hq.elim
  | .ok (.ret u), hq =>
    obtain ⟨v, H', I', rv, it, ev, hn, h0, eH⟩ := I.after hq
    subst ev
    rw [eH] at I'
    obtain rfl : u = Value.ref it := rv
    exact ⟨it, rfl, hn, h0, I'⟩
  | .ok .next, hq => exact False.elim hq
  | .ok .brk, hq => exact False.elim hq
  | .ok .cont, hq => exact False.elim hq
theorem pi_own (hd : Dn X.K C "__iter__" f) (F : FnIt X.prog X.w X.K X.mg X.base k f fd ["self"] (spIter X.K C fld)) (hr : Room k X.A) (hb : Binds X.K fd ["self"] []) (ho : PE X o to) : PI X tg o (iOwn X.K C fld to) := by
  refine ⟨fun pins s σ H R I h => ?_⟩
  refine thn (ho.run pins s σ H _ I h) fun u s1 ⟨x, H1, I1, rx, a, dx, fs, t, zs, ex, ha, hf, ht, q⟩ => ?_
  subst ex
  obtain rfl : u = Value.ref a := rx
  obtain ⟨mA, O, rr, _, _, _⟩ := ins_get I1.hok ha
  obtain ⟨od, J, hl⟩ := O.look
  obtain ⟨m0, hF⟩ := I1.fr
  refine PySem.W.owit_iter hF I1.ok.mod.kin J hd.at_ hd.fn (thn (run_iter F ⟨hr, rfl⟩ hb I1 ha hf ht) fun r s2 ⟨it, er, hn, h0, I2⟩ => ?_)
  subst er
  have e2 : upd H1 it (ItT t it 0) it = some (ItT t it 0) := upd_same
  have g : s2.heap.get? it = some (itTup t 0) := (I2.hok it _ e2).1
  have hT : s2.TypeIs (.ref it) "tuple_iterator" := ⟨_, g, rfl⟩
  have hfp := ItX.inv_fp I2 e2 (Nat.le_trans I1.sz hn)
  have I3 := ItX.inv_drop I2 e2
  rw [ItX.dropH_upd h0] at I3 hfp
  unfold PySem.W.OwitIt
  refine wpAny_specialOf (name := Str.ofString "__next__") hT PySem.F.slot_tuple_iterator_next.lookup ?_
  refine ⟨it, [it], _, _, H1, rfl, I3, turn_tuple t it, ⟨_, g, rfl, rfl⟩, fun b hb => ?_, q⟩
  rw [List.mem_singleton.mp hb]
  exact hfp
end
/-! C.m(e, .., k = v, ..), m a classmethod; cls(e, .., k = v, ..), cls a local name that holds the class -/
def tCMethK (C : Addr) (n m : Nat) (sp : Sp) (gV : List V → List V → List V) (E : XK) (ta : TE) (t tk : TA) : TE := fun σ H Q => ta σ H fun x H1 => x = .ref C ∧ t σ H1 fun vs H2 => tk σ H2 fun zs H3 => (.ref C :: vs).length = n ∧ zs.length = m ∧ sp (gV (.ref C :: vs) zs) H3 Q E
def tMakeLK (i : Nat) (C : Addr) (n m : Nat) (sp : Sp) (gV : List V → List V → List V) (E : XK) (t tk : TA) : TE := fun σ H Q => σ[i]? = some (some (.ref C)) ∧ tMakeK C n m sp gV E t tk σ H Q
section
variable {X : Cx} {CX : CXT} {k n i : Nat} {C p g f : Addr} {mc : Value} {sp : Sp} {E : XK} {o e : Expr} {es : List Expr} {kws : List Keyword} {m x : Str} {pos apos xpos : Pos} {ta : TE} {t tk : TA} {pl : Sem Bool} {fd : FuncData} {ps ks : List Str}
  {gv : List Value → List Value → List Value} {gV : List V → List V → List V}
theorem pe_cmethK (he : PE X o ta) (r : ClX.CRead X.K C mc) (c : ClX.CMet X.K C mc m p g) (F : FnOk X.prog X.w X.K X.mg X.base CX k g fd ps sp) (hr : Room k X.A) (hb : KBn X.K fd ps n ks gv gV) (hx : Passes CX X E) (ha : PA X (e :: es) t) (hkw : PK X kws tk)
    (hall : (backToKw pos (keywordEach kws X.env)).all (·.1.isSome) = true := by rfl) (hks : (backToKw pos (keywordEach kws X.env)).filterMap (·.1) = ks := by rfl)
    (hst : starEach (e :: es) X.env = (false, eval e X.env) :: starEach es X.env := by rfl) (hpl : ((backTo pos (starEach (e :: es) X.env)).any (·.1) || (backToKw pos (keywordEach kws X.env)).any (·.1.isNone)) = false := by rfl)
    (ht : eval (.Call (.Attribute o m apos) (e :: es) kws pos) X.env = (do
      let ov ← eval o X.env
      standAt apos.atName
      let (f, first) ← holding [ov] (getMethod ov m pl)
      callWith pos f first (backTo pos (starEach (e :: es) X.env)) (backToKw pos (keywordEach kws X.env))) := by rfl) :
    PE X (.Call (.Attribute o m apos) (e :: es) kws pos) (tCMethK C n ks.length sp gV E ta t tk) := by
  refine ⟨fun pins s σ H Q I h => ?_⟩
  refine PySem.W.methodCall_KW (pl := pl) (thn (he.run pins s σ H _ I h) fun u s1 ⟨x, H1, I1, rx, ex, q⟩ => ?_) ht
  subst ex
  obtain rfl : u = Value.ref C := rx
  refine ClX.getmethcm_ok I1 r c fun s2 I2 => ?_
  refine PySem.W.callWith_of (P := PySem.W.MethP X.K s1.heap.objs.size g (.ref C)) hpl (PySem.W.keeps_M c.fi) (evalArgs_kw2 hall (thn (ha.run pos _ s2 σ H1 _ I2 q) fun us s3 ⟨vs, H2, I3, rv, q2⟩ => ?_) hst)
  refine thn (hkw.run pos _ s3 σ H2 _ I3 q2) fun ws s4 ⟨zs, H3, I4, rz, l1, l2, q3⟩ => ⟨⟨ClX.pin_at I4, I4.kIn⟩, ?_⟩
  rw [hks]
  have r2 : Vals (V.ref C :: vs) (Value.ref C :: us) := .cons (relR C) rv
  have n1 : (Value.ref C :: us).length = n := r2.length.symm.trans l1
  have I5 := ClX.unpin I4
  refine wpAny_call (PySem.W.method_call (ClX.pin_at I4) (codeAny_mono (F.run X.A X.stack s4 H3 ⟨Value.ref C :: us, ks.zip ws⟩ _ _ Q E hr I5.env0 (hb.to _ (Value.ref C :: us) ws I5.kIn n1 (rz.length.symm.trans l2)) (hb.rel r2 rz) q3) fun z s' hq => ?_))
  match z, hq with
  | .error e, hq => exact hx pins σ H3 s4 e s' I5 hq
  | .ok (.ret u), hq => exact I5.after hq
  | .ok .next, hq => exact False.elim hq
  | .ok .brk, hq => exact False.elim hq
  | .ok .cont, hq => exact False.elim hq
theorem pe_makeLK (M : Mk X.K C f) (F : FnOk X.prog X.w X.K X.mg X.base CX k f fd ps sp) (hr : Room (k + 1) X.A) (hb : KBn X.K fd ps (n + 1) ks gv gV) (hx : Passes CX X E) (ha : PA X (e :: es) t) (hkw : PK X kws tk)
    (hN : X.N[i]? = some x) (hv : Vis X.env.scope x) (hd : (x == ("__debug__" : Str)) = false := by decide) (hcd : (x == ("__classdict__" : Str)) = false := by decide)
    (hall : (backToKw pos (keywordEach kws X.env)).all (·.1.isSome) = true := by rfl) (hks : (backToKw pos (keywordEach kws X.env)).filterMap (·.1) = ks := by rfl)
    (hst : starEach (e :: es) X.env = (false, eval e X.env) :: starEach es X.env := by rfl) (hpl : ((backTo pos (starEach (e :: es) X.env)).any (·.1) || (backToKw pos (keywordEach kws X.env)).any (·.1.isNone)) = false := by rfl) :
    PE X (.Call (.Name x xpos) (e :: es) kws pos) (tMakeLK i C n ks.length sp gV E t tk) := by
  refine ⟨fun pins s σ H Q I ⟨h0, h⟩ => ?_⟩
  refine wpAny_Call_Name_kw (thn ((pe_var (pos := xpos) (i := i) hN hv hd hcd).run pins s σ H (fun v H1 => v = .ref C ∧ H1 = H) I ⟨.ref C, h0, rfl, rfl⟩) fun u s1 ⟨v, H1, I1, r1, ev, eH⟩ => ?_)
  subst ev
  rw [eH] at I1
  obtain rfl : u = Value.ref C := r1
  refine PySem.W.callWith_KW (h₀ := X.base) I1.ok.mod.kin M.kp hall (thn (ha.run pos pins s1 σ H _ I1 h) fun us s2 ⟨vs, H2, I2, r, q⟩ => ?_) hpl hst
  refine thn (hkw.run pos pins s2 σ H2 _ I2 q) fun ws s3 ⟨zs, H3, I3, rz, l1, l2, q2⟩ => ⟨I3.kIn, ?_⟩
  rw [hks]
  exact run_makeK M F hr hb hx I3 r rz l1 l2 q2
end

/-! heaps that only grow -/
theorem Same.up {H : Hp} {p : Addr} {o : HO} (h : H p = Option.none) : Same H (upd H p o) := fun b u e => by
  rw [upd_ne (ne_of_none e h)]
  exact e
/-- a list under way at D, which was not there in H1 -/
structure Acc (H1 : Hp) (D : Addr) (acc : List V) (H : Hp) : Prop where
  s : Same H1 H
  n : H1 D = Option.none
  a : H D = some (.lst acc)
theorem Acc.start {H1 : Hp} {D : Addr} (n : H1 D = Option.none) : Acc H1 D [] (upd H1 D (.lst [])) := ⟨Same.up n, n, upd_same⟩
theorem Acc.same {H1 H H' : Hp} {D : Addr} {acc : List V} (h : Acc H1 D acc H) (s : Same H H') : Acc H1 D acc H' := ⟨h.s.trans s, h.n, s _ _ h.a⟩
theorem Acc.push {H1 H : Hp} {D : Addr} {acc zs : List V} (h : Acc H1 D acc H) : Acc H1 D zs (upd H D (.lst zs)) :=
  ⟨fun b o e => by rw [upd_ne (ne_of_none e h.n)]; exact h.s b o e, h.n, upd_same⟩
theorem Same.none' {H H' : Hp} (s : Same H H') {p : Addr} (h : H' p = Option.none) : H p = Option.none := s.free h
theorem Same.of_upd {H H' : Hp} {p : Addr} {o : HO} (h : H p = Option.none) (s : Same (upd H p o) H') : Same H H' := (Same.up h).trans s
/-- a list of ints as values -/
theorem ints_at {ns : List Int} {i : Nat} {x : V} (h : (ns.map V.int)[i]? = some x) : ∃ (hi : i < ns.length), x = .int ns[i] := by
  rw [List.getElem?_map] at h
  cases e : ns[i]? with
  | none => rw [e] at h; cases h
  | some u =>
    rw [e] at h
    obtain ⟨hi, rfl⟩ := List.getElem?_eq_some_iff.mp e
    exact ⟨hi, (Option.some.inj h).symm⟩

/-! comprehensions that pick -/
section
variable {α : Type} {H1 H : Hp} {D : Addr} {ks : List α} {f : α → Option V} {i : Nat} {c : α → V}
def PickI (H1 : Hp) (D : Addr) (ks : List α) (f : α → Option V) : Nat → Hp → Prop := fun i H => Acc H1 D ((ks.take i).filterMap f) H
theorem pick_start (n : H1 D = Option.none) : PickI H1 D ks f 0 (upd H1 D (.lst [])) := Acc.start n
theorem take_fm (hi : i < ks.length) : (ks.take (i + 1)).filterMap f = (ks.take i).filterMap f ++ (f ks[i]).toList := by
  rw [List.take_succ_eq_append_getElem hi, List.filterMap_append]
  cases h : f ks[i] <;> simp [h]
theorem pick_yes {H' : Hp} {y : V} (hi : i < ks.length) (hl : ks.length ≤ 1000) (e : f ks[i] = some y) (s : Same H H') (h : PickI H1 D ks f i H) :
    ∃ acc, H' D = some (.lst acc) ∧ acc.length < sizeLine ∧ PickI H1 D ks f (i + 1) (upd H' D (.lst (acc ++ [y]))) := by
  have h2 := Acc.same h s
  refine ⟨_, h2.a, small1000 ?_, ?_⟩
  · exact Nat.le_trans (Nat.le_trans (List.length_filterMap_le _ _) (List.length_take_le _ _)) (by omega)
  · unfold PickI
    rw [take_fm hi, e]
    exact h2.push
theorem pick_no {H' : Hp} (hi : i < ks.length) (e : f ks[i] = none) (s : Same H H') (h : PickI H1 D ks f i H) : PickI H1 D ks f (i + 1) H' := by
  unfold PickI
  rw [take_fm hi, e, Option.toList_none, List.append_nil]
  exact Acc.same h s
theorem pick_end {m : Nat} (hm : m = ks.length) (h : PickI H1 D ks f m H) : Acc H1 D (ks.filterMap f) H := by
  subst hm
  unfold PickI at h
  rw [List.take_length] at h
  exact h
theorem map_at {x : V} (h : (ks.map c)[i]? = some x) : ∃ hi : i < ks.length, x = c ks[i] := by
  rw [List.getElem?_map] at h
  cases e : ks[i]? with
  | none => rw [e] at h; cases h
  | some u =>
    rw [e] at h
    obtain ⟨hi, rfl⟩ := List.getElem?_eq_some_iff.mp e
    exact ⟨hi, (Option.some.inj h).symm⟩
end
end Tw

set_option Elab.async false
set_option linter.all false
set_option maxRecDepth 100000
set_option maxHeartbeats 2000000
namespace Tw
open PySem PySem.Spec PyProof.Rows L2
open PySem.W (InstAt looks_findIn looks_subIn ifBound_K cmp_K)
/-- a class with an own __eq__ and the usual != -/
structure EqC (K : PySem.W.Frag) (C f : Addr) : Prop where
  eq : PySem.W.findIn K (.ref C) "__eq__" = some (some (.ref f))
  fn : PySem.W.isFn K (.ref f) = true
  ne : PySem.W.findIn K (.ref C) "__ne__" = some (some (.builtin "object.__ne__"))
  ob : PySem.W.subIn K (.ref C) (.type "object") = some true
  ni : PySem.W.subIn K (.type "int") (.ref C) = some false
  nt : PySem.W.subIn K (.type "tuple") (.ref C) = some false

section
variable {prog : Program} {w : World} {A : Around} {E : Value → Shared → Prop} {s : Shared} {K : PySem.W.Frag} {x C L f : Addr} {h₀ : Heap} {m : Str → Option Value} {ox : Obj} {od : Option Obj} {b tb : Value}
theorem ne_entry {Q : PySem.Fin → Shared → Prop} (hu : A.units < cLine) (X : K.In s.heap) (I : InstAt s.heap x ox C od) (c : EqC K C f)
    (h : wpAny (model prog w) A (call (.ref f) [.ref x, b]) (fun v s' => ∃ r, v = .bool r ∧ Q (.done (.ret (.bool (!r)))) s') E s) :
    wpAny (model prog w) A (Builtin.«object.__ne__» ⟨[.ref x, b], []⟩) Q E s := by
  unfold Builtin.«object.__ne__»
  refine wpAny_bind (wpAny_of_eq (a := (Value.ref x, [b])) (by first | rfl | kernel_rfl!) ?_)
  refine wpAny_bind (wpAny_cRoomFor hu ?_)
  refine wpAny_bind (m := callSpecialIfBound? (.ref x) (Str.ofString "__eq__") [b]) (ifBound_K X I c.eq c.fn (wpAny_mono h (fun v s' hv => ?_) fun _ _ e => e))
  obtain ⟨r, e, q⟩ := hv
  subst e
  refine wpAny_bind (m := truthy (.bool r)) (wpAny_truthy_bool ?_)
  exact wpAny_pure q
theorem ne_call {Q : Value → Shared → Prop} (hu : A.in1.units < cLine) (X : K.In s.heap) (I : InstAt s.heap x ox C od) (c : EqC K C f)
    (h : wpAny (model prog w) A.in1 (call (.ref f) [.ref x, b]) (fun v s' => ∃ r, v = .bool r ∧ Q (.bool (!r)) s') E s) :
    wpAny (model prog w) A (call (.builtin "object.__ne__") [.ref x, b]) Q E s := by
  have t2 : PySem.W.Looks (model prog w) s.heap (isInstance (.ref x) (.type "object")) true := I.type.andThen (looks_subIn X c.ob)
  refine wpAny_call (codeAny_call_builtin F.cmp_object.ne.plain F.cmpEntry_ne (PySem.W.check_slot F.cmpKind_ne F.cmpSplit_ne t2 (F.cmpArgs_ne _ _) (ne_entry hu X I c (wpAny_mono h (fun v s' hv => ?_) fun _ _ e => e))))
  obtain ⟨r, e, q⟩ := hv
  exact ⟨r, e, q⟩
theorem ne_bound {Q : Option Value → Shared → Prop} (hu : A.in1.units < cLine) (X : K.In s.heap) (I : InstAt s.heap x ox C od) (c : EqC K C f)
    (h : wpAny (model prog w) A.in1 (call (.ref f) [.ref x, b]) (fun v s' => ∃ r, v = .bool r ∧ Q (some (.bool (!r))) s') E s) :
    wpAny (model prog w) A (callSpecialIfBound? (.ref x) "__ne__" [b]) Q E s := by
  simp only [callSpecialIfBound?, bindSpecialIfBound?]
  refine wpAny_holding (wpAny_bind (wpAny_bind (wpAny_bind (I.type.here ((looks_findIn X c.ne).here ?_)))))
  refine wpAny_bind (wpAny_askSetting (wpAny_ite ?_))
  have fin : wpAny (model prog w) A (call (.builtin "object.__ne__") ([.ref x] ++ [b]) >>= fun v => pure (some v)) Q E s :=
    wpAny_bind (ne_call hu X I c (wpAny_mono h (fun v s' ⟨r, e, q⟩ => ⟨r, e, wpAny_pure q⟩) fun _ _ e => e))
  have bd := F.cmp_object.ne.bind (.ref x)
  split
  · refine wpAny_bind ?_
    rw [bd]
    exact wpAny_pure (wpAny_pure (by exact fin))
  · refine wpAny_tryCatch (wpAny_bind ?_)
    rw [bd]
    exact wpAny_pure (wpAny_pure (by exact fin))
theorem ne_K {Q : Value → Shared → Prop} (hu : A.in1.units < cLine) (hu0 : A.units < cLine) (F : Fr h₀ L s.heap m) (X₀ : K.In h₀) (I : InstAt s.heap x ox C od) (hb : PySem.W.Looks (model prog w) s.heap (typeOf b) tb) (hn : PySem.W.notFirst K C tb = true) (c : EqC K C f)
    (h : wpAny (model prog w) A.in1 (call (.ref f) [.ref x, b]) (fun v s' => ∃ r, v = .bool r ∧ Q (.bool (!r)) s') E s) : wpAny (model prog w) A (richCompare .NotEq (.ref x) b) Q E s := by
  have X := X₀.keeps F.keep
  have one : wpAny (model prog w) A (tryCompare (.ref x) (cmpInfo .NotEq).2.1 b) (fun r s' => ∃ v, r = some v ∧ Q v s') E s := by
    unfold tryCompare
    refine wpAny_bind (ne_bound hu X I c (wpAny_mono h (fun v s' ⟨r, e, q⟩ => ⟨r, e, ?_⟩) fun _ _ e => e))
    exact wpAny_pure ⟨_, rfl, q⟩
  have two : ∀ r s', (∃ v, r = some v ∧ Q v s') → ∃ v, r = some v ∧ Q v s' := fun _ _ z => z
  unfold richCompare
  simp only [oneThing_ref]
  refine wpAny_holding (wpAny_bind (wpAny_cRoomFor hu0 ?_))
  refine wpAny_bind (I.type.here (wpAny_bind (hb.here ?_)))
  split
  · rename_i q
    have e : PySem.W.subIn K tb (.ref C) = some false := by
      rcases Bool.or_eq_true_iff.mp hn with e | e
      · rw [beq_iff_eq.mp e] at q; simp at q
      · exact beq_iff_eq.mp e
    refine wpAny_bind ((looks_subIn X e).here ?_)
    simp only [Bool.false_eq_true, if_false]
    refine wpAny_bind (wpAny_mono one (fun r s' ⟨v, ev, hq⟩ => ?_) fun _ _ e => e)
    subst ev
    exact wpAny_pure hq
  · refine wpAny_bind (wpAny_pure ?_)
    simp only [Bool.false_eq_true, if_false]
    refine wpAny_bind (wpAny_mono one (fun r s' ⟨v, ev, hq⟩ => ?_) fun _ _ e => e)
    subst ev
    exact wpAny_pure hq
end
/-! as rules -/
section
variable {X : Cx} {CX : CXT} {k : Nat} {f C : Addr} {fd : FuncData} {ps : List Str} {sp : Sp} {E : XK}
/-- the other operand: an instance of the same class, an int, a tuple -/
inductive Oth (H : Hp) (C : Addr) : V → Prop where
  | ins {a dx : Addr} {fs : List (Str × V)} (h : H a = some (.ins C dx fs)) : Oth H C (.ref a)
  | int (i : Int) : Oth H C (.int i)
  | tup {a : Addr} {xs : List V} (h : H a = some (.tup xs)) : Oth H C (.ref a)
def rEqO (C : Addr) (sp : Sp) (E : XK) (neg : Bool) : R2 := fun x y H Q =>
  ∃ a dx fs, x = .ref a ∧ H a = some (.ins C dx fs) ∧ Oth H C y ∧ sp [.ref a, y] H (fun v H' => ∃ r, v = .bl r ∧ Q (.bl (if neg then !r else r)) H') E
theorem oth_type {pins : List (Addr × Obj)} {σ : L2.St} {H : Hp} {s : Shared} {y : V} {u : Value} (I : Inv X pins σ H s) (ry : RelV y u) (c : EqC X.K C f) (o : Oth H C y) :
    ∃ tb, PySem.W.Looks (model X.prog X.w) s.heap (typeOf u) tb ∧ PySem.W.notFirst X.K C tb = true := by
  cases o with
  | @ins a dx fs h =>
    obtain rfl : u = Value.ref a := ry
    obtain ⟨mA, O, rr, _, _, _⟩ := ins_get I.hok h
    obtain ⟨od, J, hl⟩ := O.look
    exact ⟨_, J.type, by unfold PySem.W.notFirst; simp⟩
  | int i =>
    obtain ⟨t, rfl⟩ := ry
    exact ⟨.type "int", .now, by unfold PySem.W.notFirst; rw [c.ni]; simp⟩
  | @tup a xs h =>
    obtain rfl : u = Value.ref a := ry
    obtain ⟨_, _, _, ob, h1, h2, _⟩ := (show ObjOk X.prog X.w H s.heap a (.tup xs) from I.hok a _ h)
    exact ⟨.type "tuple", h2 ▸ (PySem.W.Looks.ld h1).andThen .now, by unfold PySem.W.notFirst; rw [c.nt]; simp⟩
theorem op_eq_own (c : EqC X.K C f) (F : FnOk X.prog X.w X.K X.mg X.base CX k f fd ps sp) (hr : Room k X.A) (hb : Binds X.K fd ps []) (hx : Passes CX X E) : OpR X (compareOp .Eq) (rEqO C sp E false) := by
  intro pins s σ H x y v u Q I rx ry ⟨a, dx, fs, ex, ha, o, q⟩
  subst ex
  obtain rfl : v = Value.ref a := rx
  obtain ⟨mA, O, rr, _, _, _⟩ := ins_get I.hok ha
  obtain ⟨od, J, hl⟩ := O.look
  obtain ⟨m0, hF⟩ := I.fr
  obtain ⟨tb, lk, nf⟩ := oth_type I ry c o
  show wpAny _ _ (richCompare .Eq (.ref a) u) _ _ _
  refine cmp_K hr.units0 hF I.ok.mod.kin J lk nf c.eq c.fn (thn (run_sub F ⟨hr, rfl⟩ hb hx I (.cons (relR a) (.cons ry .nil)) q) fun r s' ⟨z, H', I', rz, b, ez, q'⟩ => ?_)
  subst ez
  obtain rfl : r = Value.bool b := rz
  exact ⟨_, H', I', relB b, q'⟩
theorem op_ne_own (c : EqC X.K C f) (F : FnOk X.prog X.w X.K X.mg X.base CX k f fd ps sp) (hr : Room (k + 1) X.A) (hb : Binds X.K fd ps []) (hx : Passes CX X E) : OpR X (compareOp .NotEq) (rEqO C sp E true) := by
  intro pins s σ H x y v u Q I rx ry ⟨a, dx, fs, ex, ha, o, q⟩
  subst ex
  obtain rfl : v = Value.ref a := rx
  obtain ⟨mA, O, rr, _, _, _⟩ := ins_get I.hok ha
  obtain ⟨od, J, hl⟩ := O.look
  obtain ⟨m0, hF⟩ := I.fr
  obtain ⟨tb, lk, nf⟩ := oth_type I ry c o
  show wpAny _ _ (richCompare .NotEq (.ref a) u) _ _ _
  refine ne_K (Room.units0 hr.in1) hr.units0 hF I.ok.mod.kin J lk nf c (thn (run_sub F (Sub.in1 ⟨hr, rfl⟩) hb hx I (.cons (relR a) (.cons ry .nil)) q) fun r s' ⟨z, H', I', rz, b, ez, q'⟩ => ?_)
  subst ez
  exact ⟨b, rz, _, H', I', relB (!b), q'⟩
end
end Tw

set_option Elab.async false
set_option linter.all false
set_option maxRecDepth 100000
set_option maxHeartbeats 4000000
namespace Tw
open PySem PySem.Spec PyProof.Rows L2
/-! enumerate(t), t a tuple -/
def enO (s : Shared) : Obj := { cls := .type "enumerate", data := .fields #[.none, .bool false, .ref s.heap.objs.size, rawInt 0, .none, .none] }
theorem enum_newT (t : Addr) (items : Array Value) :
    Meets (Builtin.«enumerate.__new__» ⟨[.type "enumerate", .ref t], []⟩) (fun _ R s => s.heap.IsTuple t items ∧
      R (.ok (.ret (.ref (s.heap.push (itTup t 0)).objs.size))) { s with heap := (s.heap.push (itTup t 0)).push (enO s) }) :=
  .of_wp fun prog w A R s h => by
    obtain ⟨hp, g, d, tk, os⟩ := s
    obtain ⟨h1, h⟩ := h
    have hsub := sub_enumerate
    have q1 : ∀ {A' : Around} {E : Value → Shared → Prop} {Q : Value → Shared → Prop}, Q (.ref hp.objs.size) ⟨hp.push (itTup t 0), g, d, tk, os⟩ → wpAny (model prog w) A' (pyIter (.ref t)) Q E ⟨hp, g, d, tk, os⟩ :=
      fun q => wpAny_pyIter_tuple (s := ⟨hp, g, d, tk, os⟩) h1 q
    wp_walk using q1
    refine wpAny_stack_any fun st => wpAny_pure ?_
    split
    · rename_i c _ _ _ _ _
      cases (c == Value.type "enumerate")
      · wp_walk using q1
        exact ⟨_, rfl, h⟩
      · wp_walk using q1
        exact ⟨_, rfl, h⟩
    · wp_walk using q1
      exact ⟨_, rfl, h⟩
section
variable {prog : Program} {w : World} {A : Around} {E : Value → Shared → Prop} {s : Shared}
theorem call_enumT {t : Addr} {items : Array Value} {Q : Value → Shared → Prop} (hT : s.heap.IsTuple t items)
    (h : ∀ h', IsEnum h' (s.heap.objs.size + 1) s.heap.objs.size 0 .none → h'.IsTupleIter s.heap.objs.size t 0 → h'.objs.size = s.heap.objs.size + 2 →
      (∀ b o, s.heap.get? b = some o → h'.get? b = some o) → Q (.ref (s.heap.objs.size + 1)) { s with heap := h' }) :
    wpAny (model prog w) A (call (.type "enumerate") [.ref t]) Q E s := by
  refine callType_new F.called_enumerate (by decide) (F.typeCall_enumerate_1 _) (F.newCall_enumerate_1 _) (fun obj => F.args_object_init_2 obj _) F.entry_enumerate_new (enum_newT t items) ⟨hT, ?_⟩
  have hz : (s.heap.push (itTup t 0)).objs.size = s.heap.objs.size + 1 := Heap.size_push ..
  show _ ∧ _
  rw [hz]
  have he : IsEnum ((s.heap.push (itTup t 0)).push (enO s)) (s.heap.objs.size + 1) s.heap.objs.size 0 .none := by
    have q := Heap.get?_push_size (s.heap.push (itTup t 0)) (o := enO s) rfl
    rw [hz] at q
    exact q
  have hi : ((s.heap.push (itTup t 0)).push (enO s)).IsTupleIter s.heap.objs.size t 0 := ⟨_, Heap.get?_push_of_some _ (Heap.get?_push_size _ rfl), rfl, rfl⟩
  exact ⟨⟨_, he, rfl⟩, h _ he hi (by rw [Heap.size_push, hz]) fun b o x => Heap.get?_push_of_some _ (Heap.get?_push_of_some _ x)⟩
end
def IteT (K : PySem.W.Frag) (a : Addr) : It :=
  ⟨fun i H => ∃ (xs : List V) (x : V), SqT K H a xs ∧ xs[i]? = some x, fun i H v H' => ∃ T x, v = .ref T ∧ H T = Option.none ∧ H' = upd H T (.tup [.int (i : Nat), x]) ∧ ∀ xs, SqT K H a xs → xs[i]? = some x, fun i H => ∃ xs : List V, SqT K H a xs ∧ xs.length = i⟩
theorem turn_enumT {P : Program} {w : World} {K : PySem.W.Frag} {elts : List Expr} {kk : Nat} {tpos : Pos} (a e it : Addr) :
    Turn P w K (.Tuple elts kk tpos) (IteT K a) [e, it] e (fun i h => (∃ old, IsEnum h e it ((i : Nat) : Int) old) ∧ h.IsTupleIter it a i ∧ e ≠ it) where
  mem := by simp
  obj := fun i h st b hb => by
    obtain ⟨⟨old, he⟩, ⟨o, ho, hc, hd⟩, _⟩ := st
    rcases (show b = e ∨ b = it by simpa using hb) with rfl | rfl
    · exact ⟨_, he, fun v q => nomatch q⟩
    · exact ⟨o, ho, fun v q => by rw [hd] at q; cases q⟩
  keep := fun i h h' st k => let ⟨⟨old, he⟩, hi, hne⟩ := st; ⟨⟨old, k e (by simp) _ he⟩, hi.at fun o q => k it (by simp) o q, hne⟩
  item := by
    intro X hP hw hK hc i pins s σ H E I hf st hg
    subst hP hw hK
    obtain ⟨⟨old, he⟩, hit, hne⟩ := st
    obtain ⟨xs, x, hq, hx⟩ := hg
    obtain ⟨its, rv, p, hz⟩ := I.tuple hq
    have hil : i < xs.length := (List.getElem?_eq_some_iff.mp hx).1
    have hlen := rv.length
    have hel : e < s.heap.objs.size := Heap.lt_size he
    have hitl : it < s.heap.objs.size := by obtain ⟨_, q, _⟩ := hit; exact Heap.lt_size q
    have hae : e ≠ a := fun z => by
      obtain ⟨oo, h1, h2, _⟩ := p
      rw [← z, he] at h1
      cases h1
      injection h2 with q
      exact absurd q (by decide)
    have hia : it ≠ a := fun z => by
      obtain ⟨oo, h1, h2, _⟩ := p
      obtain ⟨o2, h3, h4, _⟩ := hit
      rw [← z, h3] at h1
      cases h1
      rw [h4] at h2
      injection h2 with q
      exact absurd q (by decide)
    have D := Draws.tuple (prog := X.prog) (w := X.w) (A := X.A.in1) (I.ok.hd hc) it a hia.symm its.toArray
    refine wpAny_pyNext_enum_itemD D he ⟨hit, p⟩ (by rw [List.size_toArray]; omega) hne (by simp [hne, hae]) fun u h' tk hu ho hst hT hsz hk => ?_
    obtain ⟨u2, hu2, ru⟩ := rv.get hx
    obtain rfl : u = u2 := by
      rw [List.getElem?_toArray] at hu
      exact Option.some.inj (hu.symm.trans hu2)
    refine ⟨_, rfl, wpAny_letOwnedTupleGo_enum (s := { s with heap := h', toks := tk + 1 }) ho fun h'' he' sb => ?_⟩
    have hT2 : h''.get? s.heap.objs.size = some { cls := .type "tuple", data := .seq #[.int i tk, u] } := (sb.2 _ (Nat.ne_of_gt hel)).trans hT
    have new : ObjOk X.prog X.w (upd H s.heap.objs.size (.tup [.int (i : Nat), x])) h'' s.heap.objs.size (.tup [.int (i : Nat), x]) :=
      ⟨by show 2 ≤ sizeLine; decide, [.int i tk, u], .cons ⟨_, rfl⟩ (.cons ru .nil), ⟨_, hT2, rfl, _, rfl⟩⟩
    have I1 : Inv X pins σ (upd H s.heap.objs.size (.tup [.int (i : Nat), x])) { s with heap := h'', toks := tk + 1 } :=
      I.turnedNew (ch := [e, it]) (fun b ob hb q => (sb.2 b (fun z => hb (by simp [z]))).trans (hk b ob (fun z => hb (by simp [z])) (fun z => hb (by simp [z])) q)) hf (Nat.le_refl _) new
    refine ⟨.ref s.heap.objs.size, _, I1, rfl, ⟨_, x, rfl, I.hok.fresh (Nat.le_refl _), rfl, fun ys hy => by rw [I.tuple_inj hy hq]; exact hx⟩, ⟨⟨u, ?_⟩, hst.1.at fun o q => (sb.2 it (Ne.symm hne)).trans q, hne⟩, fun b hb => ?_⟩
    · rw [show ((i + 1 : Nat) : Int) = (i : Int) + 1 by omega]
      exact he'
    · have hb' : b < s.heap.objs.size := by
        rcases (show b = e ∨ b = it by simpa using hb) with rfl | rfl
        · exact hel
        · exact hitl
      rw [upd_ne (Nat.ne_of_lt hb')]
      exact (hf b hb).1
  done := by
    intro X hP hw hK hc i pins s σ H E I hf st hg
    subst hP hw hK
    obtain ⟨⟨old, he⟩, hit, hne⟩ := st
    obtain ⟨xs, hq, hx⟩ := hg
    obtain ⟨its, rv, p, hz⟩ := I.tuple hq
    obtain ⟨f0, f1, f2, f3, f4, f5⟩ := hf it (by simp)
    have hlen := rv.length
    have hae : e ≠ a := fun z => by
      obtain ⟨oo, h1, h2, _⟩ := p
      rw [← z, he] at h1
      cases h1
      injection h2 with q
      exact absurd q (by decide)
    have hia : it ≠ a := fun z => by
      obtain ⟨oo, h1, h2, _⟩ := p
      obtain ⟨o2, h3, h4, _⟩ := hit
      rw [← z, h3] at h1
      cases h1
      rw [h4] at h2
      injection h2 with q
      exact absurd q (by decide)
    have D := Draws.tuple (prog := X.prog) (w := X.w) (A := X.A.in1) (I.ok.hd hc) it a hia.symm its.toArray
    have en : its.toArray.size = i := by rw [List.size_toArray]; omega
    refine wpAny_pyNext_enum_endD D he (by rw [en]; exact ⟨hit, p⟩) fun h' eb => ⟨rfl, I.turned (t' := s.toks) (fun b o hb q => eb b o hb q) f0 f1 f3 f4 f5⟩
  self := fun A i s Q E st h => let ⟨⟨_, he⟩, _⟩ := st; wpAny_pyIter_enum he h
theorem walk_enumT {K : PySem.W.Frag} {a : Addr} {xs : List V} : Walk (IteT K a) xs.length (fun H => SqT K H a xs) (YPair (fun i => some (.int (i : Nat))) (fun i => xs[i]?)) := by
  refine ⟨fun i _ hi q => ⟨xs, xs[i], q, by simp [hi]⟩, fun _ q => ⟨xs, q, rfl⟩, fun i H v H' _ q y => ?_⟩
  obtain ⟨T, x, h1, h2, h3, h4⟩ := y
  exact ⟨T, .int (i : Nat), x, h1, h2, h3, rfl, h4 xs q⟩
/-- enumerate of a list or of a tuple -/
def iEnS (K : PySem.W.Frag) (ta : TA) : TI := fun σ H R => ta σ H fun vs H1 => ∃ a xs, vs = [.ref a] ∧ ((SqL K H1 a xs ∧ R (Ite K a) H1) ∨ (SqT K H1 a xs ∧ R (IteT K a) H1))
theorem pi_enS {X : Cx} {e : Expr} {ta : TA} {p pos tpos : Pos} {elts : List Expr} {kk : Nat} (hg : Gl X "enumerate") (hm : X.mg "enumerate" = Option.none) (ha : PA X [e] ta) (hs : starEach [e] X.env = [(false, eval e X.env)] := by rfl) :
    PI X (.Tuple elts kk tpos) (.Call (.Name "enumerate" p) [e] [] pos) (iEnS X.K ta) := by
  refine ⟨fun pins s σ H R I h => ?_⟩
  refine Call_ (ld_blt I hg hm boot_enumerate (PyProof.Rows.callWith_type1 (thn (ha.run pos pins s σ H _ I h) fun us s1 ⟨vs, H1, I1, r1, a, xs, ex, q1⟩ => ?_) hs rfl))
  subst ex
  obtain ⟨u, rfl, ru⟩ := r1.one
  obtain rfl : u = Value.ref a := ru
  have fr : ∀ b ∈ [s1.heap.objs.size + 1, s1.heap.objs.size], FpOk X pins H1 b := fun b hb => by
    have hle : s1.heap.objs.size ≤ b := by
      rcases (show b = s1.heap.objs.size + 1 ∨ b = s1.heap.objs.size by simpa using hb) with z | z <;> omega
    exact I1.fpOk hle (I1.hok.fresh hle)
  rcases q1 with ⟨hq, q⟩ | ⟨hq, q⟩
  · obtain ⟨its, rv, p', hz⟩ := I1.list hq
    exact call_enumerate_list p'.isList fun h' he hit hsz hk => wpAny_pyIter_enum he ⟨_, _, _, _, H1, rfl, I1.kept (t' := s1.toks) hk, turn_enum a (s1.heap.objs.size + 1) s1.heap.objs.size, ⟨⟨.none, he⟩, hit, Nat.succ_ne_self _⟩, fr, q⟩
  · obtain ⟨its, rv, p', hz⟩ := I1.tuple hq
    exact call_enumT p' fun h' he hit hsz hk => wpAny_pyIter_enum he ⟨_, _, _, _, H1, rfl, I1.kept (t' := s1.toks) hk, turn_enumT a (s1.heap.objs.size + 1) s1.heap.objs.size, ⟨⟨.none, he⟩, hit, Nat.succ_ne_self _⟩, fr, q⟩
end Tw

set_option Elab.async false
set_option linter.all false
set_option maxRecDepth 100000
set_option maxHeartbeats 2000000
/-! own rules: min(xs, key=lambda x: ys[x]), ys a name of the def -/
namespace Cl
open PySem PySem.Spec PyProof.Rows L2 LamX
section
variable {prog : Program} {w : World} {A : Around} {E : Value → Shared → Prop} {s : Shared}
/-- what the lambda's scope must say -/
structure LSc (scope : Scope) (x y : Str) : Prop where
  kind : scope.kind = .function
  co : scope.isCoroutine = false
  gen : scope.isGenerator = false
  nocell : ∀ z ∈ scope.names, z.2 ≠ .cell
  px : scope.names.lookup x = some .local
  fy : scope.names.lookup y = some .free
/-- lambda x: y[x], called with an int -/
theorem lam_ix {f l c' ck : Addr} {q x y : Str} {params : Arguments} {p1 p2 p3 : Pos} {scope : Scope} {cl : List (Str × Addr)} {pm ctv u : Value} {vs : List Value} {i : Int} {t : Tok} {Q : Value → Shared → Prop}
    (S : LSc scope x y) (hd : A.depth < recursionLimit) (hf : s.heap.get? f = some (PySem.W.kla_obj "<lambda>" q params (.Subscript (.Name y p1) (.Name x p2) p3) scope cl pm c' ctv))
    (hbind : ∀ v : Value, bindArgs (PySem.W.kla_fn "<lambda>" q params (.Subscript (.Name y p1) (.Name x p2) p3) scope cl pm (.ref c') ctv) ⟨[v], []⟩ = pure [(x, v)])
    (hcode : ∃ (oc : Obj) (us : Array Value) (tk : Tok), s.heap.get? c' = some oc ∧ oc.data = .fields us ∧ us[1]? = some (.str q tk)) (hlim : s.heap.NoLimit)
    (hck : cl.lookup y = some ck) (hcell : s.heap.IsCell ck (some (.ref l))) (hl : s.heap.IsList l vs.toArray) (h0 : 0 ≤ i) (h1 : i < 2 ^ 63) (hi : vs[i.toNat]? = some u)
    (hdx : (x == ("__debug__" : Str)) = false) (hdy : (y == ("__debug__" : Str)) = false) (hcy : (y == ("__classdict__" : Str)) = false)
    (h : ∀ h' tk, s.toks ≤ tk → (∀ b o, s.heap.get? b = some o → h'.get? b = some o) → Q u { s with heap := h', toks := tk }) : wpAny (model prog w) A (call (.ref f) [.int i t]) Q E s := by
  obtain ⟨oc, us, tq, hoc, hdc, hvc⟩ := hcode
  refine wpAny_call (PySem.W.kla_callFunE hd hf rfl S.co S.gen rfl ⟨c', oc, us, tq, rfl, hoc, hdc, hvc⟩ ?_)
  rw [hbind]
  refine wpAny_pure (wpAny_newFunctionEnv S.nocell (fun z hz => by rw [List.mem_singleton.mp hz]; exact S.px) (fun h₁ hns hsb => ⟨hlim.fresh _ hsb, ?_⟩) S.kind)
  have kp : ∀ b o, s.heap.get? b = some o → h₁.get? b = some o := fun b o e => hsb.extBut b o (Nat.ne_of_lt (Heap.lt_size e)) (Heap.get?_push_of_some _ e)
  refine PySem.W.kla_codeExpr ?_
  refine wpAny_Subscript_Name list_getitem_lookup ?_
  refine wpAny_Name (wpAny_loadName_free S.kind S.fy hck (hcell.keeps kp) ?_ hcy) hdy
  refine wpAny_Name (wpAny_loadName_local S.kind S.px hns (v := .int i t) ?_ ?_) hdx
  · simp [List.lookup]
  · have hl' : h₁.IsList l vs.toArray := hl.at fun o e => kp _ _ e
    refine ⟨hl'.typeIs, wpAny_getItem_list hl' h0 h1 (by simpa using hi) ?_⟩
    exact h h₁ _ (by show s.toks ≤ s.toks + _; omega) kp
/-- what a lambda x: y[x] is, and what it reads -/
structure LamAt (h : Heap) (f : Addr) (x y : Str) (q : Str) (params : Arguments) (p1 p2 p3 : Pos) (scope : Scope) (cl : List (Str × Addr)) (pm ctv : Value) (c' ck l : Addr) (us : List Value) : Prop where
  fn : h.get? f = some (PySem.W.kla_obj "<lambda>" q params (.Subscript (.Name y p1) (.Name x p2) p3) scope cl pm c' ctv)
  code : ∃ (oc : Obj) (us : Array Value) (tk : Tok), h.get? c' = some oc ∧ oc.data = .fields us ∧ us[1]? = some (.str q tk)
  lim : h.NoLimit
  hck : cl.lookup y = some ck
  cell : h.IsCell ck (some (.ref l))
  lst : h.IsList l us.toArray
theorem LamAt.keeps {h h' : Heap} {f : Addr} {x y : Str} {q : Str} {params : Arguments} {p1 p2 p3 : Pos} {scope : Scope} {cl : List (Str × Addr)} {pm ctv : Value} {c' ck l : Addr} {us : List Value}
    (L : LamAt h f x y q params p1 p2 p3 scope cl pm ctv c' ck l us) (k : ∀ b o, h.get? b = some o → h'.get? b = some o) : LamAt h' f x y q params p1 p2 p3 scope cl pm ctv c' ck l us :=
  ⟨k _ _ L.fn, let ⟨oc, us, tk, a, b, c⟩ := L.code; ⟨oc, us, tk, k _ _ a, b, c⟩, L.lim.keeps k, L.hck, L.cell.keeps k, L.lst.at fun o e => k _ _ e⟩
theorem min_lam {f a l c' ck : Addr} {q x y : Str} {params : Arguments} {p1 p2 p3 : Pos} {scope : Scope} {cl : List (Str × Addr)} {pm ctv : Value} {cs us : List Value} {ns : Nat → Int} {kf : Nat → Int} {Q : Value → Shared → Prop}
    (hh : A.handled = none) (S : LSc scope x y) (hd : A.depth < recursionLimit) (L : LamAt s.heap f x y q params p1 p2 p3 scope cl pm ctv c' ck l us)
    (hbind : ∀ v : Value, bindArgs (PySem.W.kla_fn "<lambda>" q params (.Subscript (.Name y p1) (.Name x p2) p3) scope cl pm (.ref c') ctv) ⟨[v], []⟩ = pure [(x, v)])
    (hdx : (x == ("__debug__" : Str)) = false) (hdy : (y == ("__debug__" : Str)) = false) (hcy : (y == ("__classdict__" : Str)) = false)
    (ht : s.heap.IsTuple a cs.toArray) (hc : ∀ i, i < cs.length → ∃ t, cs[i]? = some (.int (ns i) t)) (hne : 0 < cs.length)
    (hk : ∀ i, i < cs.length → 0 ≤ ns i ∧ ns i < 2 ^ 63 ∧ ∃ t, us[(ns i).toNat]? = some (.int (kf i) t))
    (h : ∀ v h' tk, cs[argBest (fun i j => decide (kf i < kf j)) (cs.length - 1)]? = some v → (∀ b o, s.heap.get? b = some o → h'.get? b = some o) → Q v { s with heap := h', toks := tk }) :
    wpAny (model prog w) A (call (.builtin "min") [.ref a] [(Str.ofString "key", .ref f)]) Q E s := by
  have hd1 : A.in1.depth < recursionLimit := hd
  refine call_min_walkK (PySem.W.iter_tupleW (A := A.in1) hh ht fun s₂ e2 W st hfp hfr kp2 => ?_)
  have sz2 : s.heap.objs.size < s₂.heap.objs.size := hfp _ List.mem_cons_self
  have old : ∀ {s' : Shared}, Moved [s₂.heap.objs.size, s.heap.objs.size] (fun a b => b = a) s₂ s' → ∀ b o, s.heap.get? b = some o → s'.heap.get? b = some o := fun {s'} m b o e => by
    have lt := Heap.lt_size e
    refine m.heap b o (fun hm => ?_) (kp2 b o e)
    rcases List.mem_cons.mp hm with z | hm
    · rw [z] at lt
      exact Nat.lt_irrefl _ (Nat.lt_trans lt sz2)
    · rw [List.mem_singleton.mp hm] at lt
      exact Nat.lt_irrefl _ lt
  have szc : cs.toArray.size = cs.length := by simp
  refine ⟨s.heap.objs.size, [s.heap.objs.size, a], [s.heap.objs.size], (fun a b => b = a), cs.toArray.size, _, _, fun s' => Moved [s₂.heap.objs.size, s.heap.objs.size] (fun a b => b = a) s₂ s', fun i k _ => ∃ t, k = .int (kf i) t, fun i j => decide (kf i < kf j), rfl, W, st, hfp, by rw [szc]; exact hne, ⟨?_, ?_, ?_, ?_⟩, Moved.refl fun _ => rfl, ?_⟩
  · exact fun s1 s' J m => J.trans (fun _ _ _ h1 h2 => h2.trans h1) m
  · exact fun i k s1 s' v _ => v
  · intro i v s1 o Q' E' hi hP J stI hS cont
    rw [szc] at hi
    obtain ⟨t, ec⟩ := hc i hi
    have ev : v = .int (ns i) t := by
      have hP' : cs[i]? = some v := by simpa using hP
      rw [ec] at hP'
      exact (Option.some.inj hP').symm
    subst ev
    obtain ⟨h0, h1, tk, eu⟩ := hk i hi
    have L1 := L.keeps (old J)
    refine lam_ix S hd1 L1.fn hbind L1.code L1.lim L1.hck L1.cell L1.lst h0 h1 eu hdx hdy hcy fun h' tk' hle kp => ?_
    exact cont _ _ (J.then_heap hle fun b o _ e => kp b o e) (W.frame _ s1 h' tk' stI hle fun b _ o e => kp b o e) (kp _ _ hS) ⟨_, rfl⟩ fun j k' z => z
  · intro i j ki kj s1 Q' E' J vi vj q
    exact CmpOf.ints_lt (prog := prog) (w := w) (A := A.in1) (P := fun i v => ∃ t, v = .int (kf i) t) kf (fun i v h => h) i j ki kj s1 Q' E' vi vj q
  · intro v s' hP J
    rw [szc] at hP
    have hP' : cs[argBest (fun i j => decide (kf i < kf j)) (cs.length - 1)]? = some v := by simpa using hP
    have e : s' = { s with heap := s'.heap, toks := s'.toks } := by
      obtain ⟨hp, g, d, tk, os⟩ := s'
      subst e2
      have h1 : g = s.gens := J.gens
      have h2 : d = s.drawn := J.drawn
      have h3 : os = s.os := J.os
      subst h1 h2 h3
      rfl
    rw [e]
    exact h v s'.heap s'.toks hP' (old J)
end
/-- the first of the least -/
def FirstLeast (kf : Nat → Int) (n j : Nat) : Prop := j < n ∧ (∀ i, i < n → kf j ≤ kf i) ∧ ∀ i, i < j → kf j < kf i
theorem best_is (kf : Nat → Int) : ∀ n, FirstLeast kf (n + 1) (argBest (fun i j => decide (kf i < kf j)) n)
  | 0 => ⟨Nat.zero_lt_one, fun i h => by rw [Nat.lt_one_iff.mp h]; exact Int.le_refl _, fun i h => nomatch h⟩
  | n + 1 => by
    obtain ⟨a, b, c⟩ := best_is kf n
    show FirstLeast kf (n + 2) (if decide (kf (n + 1) < kf (argBest (fun i j => decide (kf i < kf j)) n)) = true then n + 1 else argBest (fun i j => decide (kf i < kf j)) n)
    by_cases h : kf (n + 1) < kf (argBest (fun i j => decide (kf i < kf j)) n)
    · rw [if_pos (decide_eq_true h)]
      refine ⟨by omega, fun i hi => ?_, fun i hi => ?_⟩
      · by_cases e : i = n + 1
        · rw [e]
          exact Int.le_refl _
        · have := b i (by omega)
          omega
      · have := b i (by omega)
        omega
    · rw [if_neg (fun z => h (of_decide_eq_true z))]
      refine ⟨by omega, fun i hi => ?_, c⟩
      by_cases e : i = n + 1
      · rw [e]
        omega
      · exact b i (by omega)
theorem first_one {kf : Nat → Int} {n i j : Nat} (a : FirstLeast kf n i) (b : FirstLeast kf n j) : i = j := by
  rcases Nat.lt_trichotomy i j with h | h | h
  · have h1 := b.2.2 i h
    have h2 := a.2.1 j b.1
    omega
  · exact h
  · have h1 := a.2.2 j h
    have h2 := b.2.1 i a.1
    omega
/-- the item of ns whose key in ks is the least, the first such one -/
def LeastAt (ks ns : List Int) (m : Int) : Prop := ∃ j, FirstLeast (fun i => ks.getD (ns.getD i 0).toNat 0) ns.length j ∧ m = ns.getD j 0
theorem _root_.LamX.ExtN.rd {H H' : Hp} (e : ExtN H H') {a : Addr} {u : HO} (n : ∀ ps, u ≠ .tbl ps) (h : Rd H a u) : Rd H' a u := by
  rcases h with h | ⟨o, h⟩
  · exact .inl (e _ _ h n)
  · exact .inr ⟨o, e _ _ h fun ps z => nomatch z⟩
theorem _root_.LamX.ExtN.sqL {K : PySem.W.Frag} {H H' : Hp} (e : ExtN H H') {a : Addr} {xs : List V} (h : SqL K H a xs) : SqL K H' a xs := h.elim (fun h => .inl (e.rd (fun ps z => nomatch z) h)) .inr
theorem _root_.LamX.ExtN.sqT {K : PySem.W.Frag} {H H' : Hp} (e : ExtN H H') {a : Addr} {xs : List V} (h : SqT K H a xs) : SqT K H' a xs := h.elim (fun h => .inl (e.rd (fun ps z => nomatch z) h)) .inr
section
variable {X : Cx}
def tMinLam (K : PySem.W.Frag) (T : List (Addr × Str)) (j : Nat) (te : TE) : TE := fun σ H Q => te σ H fun v H1 => ∃ (a l : Addr) (ns ks : List Int), v = .ref a ∧ SqT K H1 a (ns.map V.int) ∧ σ[j]? = some (some (.ref l)) ∧ SqL K H1 l (ks.map V.int) ∧ 0 < ns.length ∧ (∀ n ∈ ns, 0 ≤ n ∧ n < ks.length) ∧
  Tabs T H1 ∧ ∀ (m : Int) (H2 : Hp), ExtN H1 H2 → Tabs T H2 → LeastAt ks ns m → Q (.int m) H2
/-- min(e, key=lambda x: y[x]), y a name of the def that it shares with the lambda -/
theorem pe_minlam {T : List (Addr × Str)} {c P : Addr} {p p1 p2 p3 lpos kpos pos : Pos} {e : Expr} {te : TE} {x y : Str} {j : Nat} {params : Arguments} {scope : Scope}
    (hg : Gl X "min") (hm : X.mg "min" = none) (he : PE X e te) (hd : X.A.depth < recursionLimit) (hh : X.A.handled = none) (TB : TabB X.base X.mg c P) (hcode : X.env.code = .ref c) (hmT : (P, X.env.qual ++ "<lambda>") ∈ T)
    (hu : ∀ q ∈ T, q.1 = P → q.2 = X.env.qual ++ "<lambda>") (S : LSc scope x y) (hfy : X.env.scope.names.lookup y = some .cell) (hfr : ∀ z ∈ scope.names, z.2 = .free → z.1 = y) (hN : X.N[j]? = some y) (hdef : defaultsOf params X.env = ([], []))
    (hbind : ∀ (q : Str) (cl : List (Str × Addr)) (pm cv ctv v : Value), bindArgs (PySem.W.kla_fn "<lambda>" q params (.Subscript (.Name y p1) (.Name x p2) p3) scope cl pm cv ctv) ⟨[v], []⟩ = pure [(x, v)])
    (hs : starEach [e] X.env = (false, eval e X.env) :: starEach [] X.env := by rfl)
    (hdx : (x == ("__debug__" : Str)) = false := by decide) (hdy : (y == ("__debug__" : Str)) = false := by decide) (hcy : (y == ("__classdict__" : Str)) = false := by decide) :
    PE X (.Call (.Name "min" p) [e] [⟨some "key", .Lambda params (.Subscript (.Name y p1) (.Name x p2) p3) scope lpos, kpos⟩] pos) (tMinLam X.K T j te) := by
  refine ⟨fun pins s σ H Q I h => ?_⟩
  have hfree : ∀ z ∈ scope.names, z.2 = .free → ∃ c, X.env.cells.lookup z.1 = some c := fun z hz e => I.ok.has _ (.inl (by rw [hfr z hz e]; exact hfy))
  refine wpAny_Call_Name_kw (ld_blt I hg hm (u := .builtin "min") (by decide +kernel) ?_)
  refine PyProof.Rows.callWith_kw ?_ (by rw [hs]; rfl) (by rw [hs]; rfl) (by rfl) (by rfl)
  rw [hs]
  show wpAny _ _ (spliced ((false, eval e X.env) :: backTo pos (starEach [] X.env))) _ _ s
  refine Calls.spliced_cons (thn (he.run pins s σ H _ I h) fun u s1 ⟨v, H1, I1, r1, a, l, ns, ks, ev, ht, hσ, hl, hne, hin, hT, q⟩ => Calls.spliced_nil ?_)
  subst ev
  obtain rfl : u = Value.ref a := r1
  show wpAny _ _ (evalAll ((do let v ← eval (.Lambda params (.Subscript (.Name y p1) (.Name x p2) p3) scope lpos) X.env; standAt pos; pure v) :: [])) _ _ s1
  refine wpAny_evalAll_cons (wpAny_bind (lam_make2 I1 TB hcode hmT hu hT hdef hfree fun f c' pm ctv H2 s2 I2 eN T2 hf hfn hff hco => wpAny_bind (wpAny_standAt (wpAny_pure (wpAny_evalAll_nil ?_)))))
  show wpAny _ _ (call (.builtin "min") [.ref a] [(Str.ofString "key", .ref f)]) _ _ s2
  obtain ⟨cs, rc, tc, _⟩ := I2.tuple (eN.sqT ht)
  obtain ⟨us, ru, pl, hz2⟩ := I2.list (eN.sqL hl)
  obtain ⟨m, _, look⟩ := I2.loc
  obtain ⟨u0, r0, lk⟩ := look j y _ hN hσ (.inr (.inl hfy))
  obtain rfl : u0 = Value.ref l := r0
  have cellAt : ∃ ck, X.env.cells.lookup y = some ck ∧ s2.heap.IsCell ck (some (.ref l)) := by
    rcases lk with ⟨k, _⟩ | ⟨_, ck, e1, e2⟩
    · rw [show X.env.kindOf y = some .cell from hfy] at k
      cases k
    · exact ⟨ck, e1, e2⟩
  obtain ⟨ck, eck, hcell⟩ := cellAt
  obtain ⟨⟨oc, vs, tk, o1, o2, o3⟩, _, _⟩ := I2.hok c' _ hco
  have lc : cs.length = ns.length := by rw [← rc.length, List.length_map]
  have lu : us.length = ks.length := by rw [← ru.length, List.length_map]
  have nsAt : ∀ i, i < ns.length → ∃ t, cs[i]? = some (.int (ns.getD i 0) t) := fun i hi => by
    obtain ⟨z, ez, rz⟩ := rc.get (i := i) (x := V.int (ns.getD i 0)) (by rw [List.getElem?_map, List.getD_eq_getElem?_getD, List.getElem?_eq_getElem hi]; rfl)
    obtain ⟨t, rfl⟩ := rz
    exact ⟨t, ez⟩
  refine min_lam (ns := fun i => ns.getD i 0) (kf := fun i => ks.getD (ns.getD i 0).toNat 0) hh S hd ⟨hf, ⟨oc, vs, tk, o1, o2, o3⟩, I2.nolimit, NdefX.clo_has hfree (PySem.mem_of_lookup S.fy) eck, hcell, pl.isList⟩ (fun v => hbind _ _ _ _ _ v) hdx hdy hcy tc (fun i hi => nsAt i (by omega)) (by omega)
    (fun i hi => ?_) fun v h' tk2 hv kp => ?_
  · have hi' : i < ns.length := by omega
    have hmem : ns.getD i 0 ∈ ns := by rw [List.getD_eq_getElem?_getD, List.getElem?_eq_getElem hi']; exact List.getElem_mem hi'
    obtain ⟨b0, b1⟩ := hin _ hmem
    have hs63 := line63
    rw [List.length_map] at hz2
    have hk' : (ns.getD i 0).toNat < ks.length := by omega
    obtain ⟨z, ez, rz⟩ := ru.get (i := (ns.getD i 0).toNat) (x := V.int (ks.getD (ns.getD i 0).toNat 0)) (by rw [List.getElem?_map, List.getD_eq_getElem?_getD (l := ks), List.getElem?_eq_getElem hk']; rfl)
    obtain ⟨t, rfl⟩ := rz
    exact ⟨b0, by omega, t, ez⟩
  · obtain ⟨n, en⟩ : ∃ n, ns.length = n + 1 := ⟨ns.length - 1, by omega⟩
    have fl := best_is (fun i => ks.getD (ns.getD i 0).toNat 0) n
    rw [← en] at fl
    rw [lc, show ns.length - 1 = n by omega] at hv
    obtain ⟨t, et⟩ := nsAt _ fl.1
    rw [et] at hv
    cases hv
    exact ⟨.int _, H2, I2.kept kp, ⟨t, rfl⟩, q _ H2 eN T2 ⟨_, fl, rfl⟩⟩
end
end Cl

set_option Elab.async false
set_option linter.all false
set_option maxRecDepth 100000
set_option maxHeartbeats 2000000
/-! own rule: list(o), o an instance with an __iter__ over its tuple and a __len__ -/
namespace Tw
open PySem PySem.Spec PyProof.Rows L2
def rListO (K : PySem.W.Frag) (C : Addr) (fld : Str) (sp : Sp) (E : XK) : List V → Hp → VK → Prop := fun xs H Q => ∃ (a dx : Addr) (fs : List (Str × V)) (t : Addr) (zs : List V), xs = [.ref a] ∧ H a = some (.ins C dx fs) ∧ fs.lookup fld = some (.ref t) ∧ SqT K H t zs ∧ zs.length ≤ 900 ∧
  sp [.ref a] H (fun v H' => ∃ n : Nat, v = .int n ∧ n < 1000 ∧ H' = H) E ∧ ∀ q, H q = none → Q (.ref q) (upd H q (.lst zs))
theorem ty_ne {a b : String} (h : Value.type a = Value.type b) (n : decide (a = b) = false) : False := by
  injection h with h
  exact of_decide_eq_false n h
theorem if_yes {α : Type} {M : Model} {A : Around} {E : Value → Shared → Prop} {s : Shared} {c : Bool} {a b : Sem α} {Q : α → Shared → Prop} (hc : c = true) (h : wpAny M A a Q E s) : wpAny M A (if c = true then a else b) Q E s := by
  rw [hc, if_pos rfl]
  exact h
section
variable {X : Cx} {k : Nat} {f : Addr} {fd : FuncData} {ps : List Str} {sp : Sp} {A1 : Around} {pins : List (Addr × Obj)} {σ : L2.St} {H : Hp} {s : Shared} {Q : VK}
/-- a def that raises nothing, called within a built-in -/
theorem run_sub0 {us : List Value} {vs : List V} {R : Value → Shared → Prop} (F : FnOk X.prog X.w X.K X.mg X.base CX0 k f fd ps sp) (sb : Sub X k A1) (hb : L2.Binds X.K fd ps []) (I : Inv X pins σ H s) (r : Vals vs us) (h : sp vs H Q E0) :
    wpAny (model X.prog X.w) A1 (call (.ref f) us) (EP X pins σ Q) R s := by
  have hl : us.length = ps.length := by rw [← r.length]; exact F.len _ _ _ _ h
  have hb1 : BindsTo s fd ⟨us, []⟩ (ps.zip us) := by
    have z := hb s us I.kIn (by rw [List.append_nil]; exact hl)
    rw [List.append_nil] at z
    exact z
  refine wpAny_call (codeAny_mono (F.run A1 X.stack s H ⟨us, []⟩ us vs Q E0 sb.room (Sub.env0 sb I) hb1 r h) fun z s' hq => ?_)
  match z, hq with
  | .error e, hq => exact False.elim hq
  | .ok (.ret u), hq => exact I.after hq
  | .ok .next, hq => exact False.elim hq
  | .ok .brk, hq => exact False.elim hq
  | .ok .cont, hq => exact False.elim hq
end
section
variable {X : Cx} {kI k : Nat} {fi fl C : Addr} {fdI fdL : FuncData} {psL : List Str} {spL : Sp} {fld : Str}
theorem call_listO (hdI : Dn X.K C "__iter__" fi) (FI : FnIt X.prog X.w X.K X.mg X.base k fi fdI ["self"] (spIter X.K C fld)) (bI : L2.Binds X.K fdI ["self"] [])
    (hdL : Dn X.K C "__len__" fl) (FL : FnOk X.prog X.w X.K X.mg X.base CX0 k fl fdL psL spL) (bL : L2.Binds X.K fdL psL []) (hr : Room (k + 3) X.A) : CallR X (.type "list") (rListO X.K C fld spL E0) := by
  intro pins s σ H xs us Q I rv h
  obtain ⟨a, dx, fs, t, zs, rfl, ha, hf, ht, hz, hlen, q⟩ := h
  obtain ⟨u, rfl, ru⟩ := rv.one
  cases ru
  have sb1 : Sub X (k + 1) X.A.in1.in1 := Sub.in1 (Sub.in1 (⟨hr, rfl⟩ : Sub X (k + 3) X.A))
  have sb : Sub X k X.A.in1.in1 := sb1.mono (Nat.le_succ k)
  refine callType_codes (Q₁ := fun obj s₁ => obj = .ref s.heap.objs.size ∧ s₁ = { s with heap := s.heap.push { cls := .type "list", data := .seq #[] } }) PySem.F.called_list (PySem.F.typeCall_list_1 _) PySem.F.entry_list_init
    (code_list_new _ ⟨rfl, rfl⟩) fun obj s₁ h₁ => ?_
  obtain ⟨rfl, rfl⟩ := h₁
  have hS : (s.heap.push { cls := .type "list", data := .seq #[] }).get? s.heap.objs.size = some { cls := .type "list", data := .seq #[] } := Heap.get?_push_size _ rfl
  refine ⟨⟨_, hS, rfl⟩, PySem.F.args_list_init_2 _ _, ?_⟩
  have nS : H s.heap.objs.size = none := I.hok.fresh (Nat.le_refl _)
  have fS : FpOk X pins H s.heap.objs.size := I.fpOk (Nat.le_refl _) nS
  have I1 : Inv X pins σ H { s with heap := s.heap.push { cls := .type "list", data := .seq #[] } } := I.kept (t' := s.toks) fun b u e => Heap.get?_push_of_some _ e
  show wpAny _ _ (do let old ← Builtin.List.listItems (.ref s.heap.objs.size); Builtin.List.listUpdate (.ref s.heap.objs.size) (fun _ => #[]); letGo old.toList.reverse; Builtin.List.listExtendWith (.ref s.heap.objs.size) (.ref a) .none) _ _ _
  refine wpAny_bind ?_
  unfold Builtin.List.listItems
  refine wpAny_bind (wpAny_seqItems hS rfl (wpAny_pure ?_))
  show wpAny _ _ (updateSeq s.heap.objs.size (fun _ => #[]) >>= fun _ => letGo (#[] : Array Value).toList.reverse >>= fun _ => Builtin.List.listExtendWith (.ref s.heap.objs.size) (.ref a) .none) _ _ _
  refine wpAny_bind (wpAny_updateSeq hS rfl ?_)
  have hS2 := Heap.get?_update_self (h := s.heap.push { cls := .type "list", data := .seq #[] }) (f := Obj.mapSeq fun _ => #[]) hS rfl
  have I2 := I1.turnedL (h' := (s.heap.push { cls := .type "list", data := .seq #[] }).update s.heap.objs.size (Obj.mapSeq fun _ => #[])) (t' := s.toks) (ch := [s.heap.objs.size]) (fun b o hb e => (Heap.get?_update_other _ _ (fun z => hb (by simp [z]))).trans e) (fun b hb => by rw [List.mem_singleton.mp hb]; exact fS)
  refine wpAny_bind (wpAny_letGo ?_)
  generalize hSa : s.heap.objs.size = S at *
  generalize hh2 : (s.heap.push { cls := .type "list", data := .seq #[] }).update S (Obj.mapSeq fun _ => #[]) = h2 at *
  have szS : S < h2.objs.size := Heap.lt_size hS2
  obtain ⟨mA, O, rr, _, _, _⟩ := ins_get I2.hok ha
  obtain ⟨od, J, hl⟩ := O.look
  obtain ⟨m0, hF⟩ := I2.fr
  have hne : S ≠ a := fun z => by rw [← z] at ha; rw [nS] at ha; cases ha
  have h1 : Builtin.List.listSameRef (.ref S) (.ref a) = false := by simp [Builtin.List.listSameRef, hne]
  unfold Builtin.List.listExtendWith
  refine wpAny_bind (J.type.here ?_)
  have n2 : (Value.ref C == Value.type "list") = false := rfl
  have n3 : (Value.ref C == Value.type "tuple") = false := rfl
  simp only [h1, n2, n3, Bool.or_false, Bool.false_eq_true, if_false]
  have I2p := I2.pinned (fp := [S]) (fun b hb => by rw [List.mem_singleton.mp hb]; exact fS) (fun b hb => by rw [List.mem_singleton.mp hb]; exact ⟨_, hS2, fun v z => nomatch z⟩)
  refine wpAny_bind (PySem.W.owit_iter hF I2.ok.mod.kin J hdI.at_ hdI.fn (thn (run_iter FI sb bI I2p ha hf ht) fun r s3 ⟨it, er, hn, h0, I3⟩ => ?_))
  subst er
  have e2 : upd H it (ItT t it 0) it = some (ItT t it 0) := upd_same
  have g : s3.heap.get? it = some (itTup t 0) := (I3.hok it _ e2).1
  have hS3 := (I3.pin (S, _) (List.mem_append_right _ (List.mem_append_right _ (mem_pinsAt (List.mem_singleton.mpr rfl) hS2)))).1
  have hTy : s3.TypeIs (.ref it) "tuple_iterator" := ⟨_, g, rfl⟩
  have fIt := ItX.inv_fp I3 e2 (Nat.le_trans I2.sz hn)
  have I4 := ItX.inv_drop I3 e2
  rw [ItX.dropH_upd h0] at I4 fIt
  unfold PySem.W.OwitIt
  refine wpAny_specialOf (name := Str.ofString "__next__") hTy PySem.F.slot_tuple_iterator_next.lookup ?_
  have I5 := I4.pinned (fp := [it]) (fun b hb => by rw [List.mem_singleton.mp hb]; exact fIt) (fun b hb => by rw [List.mem_singleton.mp hb]; exact ⟨_, g, fun v z => nomatch z⟩)
  show wpAny _ X.A.in1.in1 (holding [.ref it] (Builtin.List.listLengthHint (.ref a)) >>= _) _ _ s3
  obtain ⟨mA5, O5, rr5, _, _, _⟩ := ins_get I5.hok ha
  obtain ⟨od5, J5, hl5⟩ := O5.look
  obtain ⟨m5, hF5⟩ := I5.fr
  refine wpAny_bind (wpAny_holding ?_)
  have lenOk : ∀ {R : Value → Shared → Prop}, wpAny (model X.prog X.w) X.A.in1.in1 (call (.builtin "len") [.ref a]) (fun r s' => ∃ (n : Nat) (tk : Tok), r = .int n tk ∧ n < 1000 ∧ Inv X (pins ++ pinsAt [S] h2 ++ pinsAt [it] s3.heap) σ H s') R s3 := by
    intro R
    refine PySem.W.len_K hF5 I5.ok.mod.kin J5 hdL.at_ hdL.fn (thn (run_sub0 FL (Sub.in1 (Sub.mono sb1 (Nat.le_refl _))) bL I5 (.cons (relR a) .nil) hlen) fun r s' ⟨z, H', I', rz, n, ez, hn, eH⟩ => ?_)
    subst ez
    rw [eH] at I'
    obtain ⟨tk, rfl⟩ := rz
    exact ⟨⟨by omega, by omega⟩, n, _, rfl, hn, I'.tok _⟩
  unfold Builtin.List.listLengthHint
  refine wpAny_bind (wpAny_bind (J5.type.here ((PySem.W.looks_findIn I5.kIn hdL.at_).here ?_)))
  refine PySem.W.KFB.if_not rfl ?_
  refine if_yes rfl ?_
  refine wpAny_bind (wpAny_rule ?_)
  refine wpAny_bind (wpAny_attempt (thn lenOk fun r s6 ⟨n, tk, er, hn6, I6⟩ => ?_))
  subst er
  refine wpAny_bind (wpAny_of_eq (a := some ((n : Nat) : Int)) (by rfl) ?_)
  refine PySem.W.KFB.if_not (by unfold Builtin.List.listTooLong; exact decide_eq_false (by rw [sizeLine_eq, Int.toNat_natCast]; omega)) ?_
  refine wpAny_pure ?_
  -- the loop
  have I7 : Inv X pins σ H s6 := I6.unpinned.unpinned
  have hS6 := (I6.pin (S, _) (List.mem_append_right _ (List.mem_append_left _ (List.mem_append_right _ (mem_pinsAt (List.mem_singleton.mpr rfl) hS2))))).1
  have g6 := (I6.pin (it, _) (List.mem_append_right _ (List.mem_append_right _ (mem_pinsAt (List.mem_singleton.mpr rfl) g)))).1
  have fIt2 : FpOk X pins H it := ⟨fIt.1, fIt.2.1, fIt.2.2.1, fIt.2.2.2.1, fIt.2.2.2.2.1, fun p hp => fIt.2.2.2.2.2 p ((List.mem_append.mp hp).elim (fun z => List.mem_append_left _ z) fun z => List.mem_append_right _ (List.mem_append_left _ z))⟩
  have Sne' : S ≠ it := fun z => by
    rw [z, g6] at hS6
    exact ty_ne (show Value.type "tuple_iterator" = Value.type "list" from congrArg Obj.cls (Option.some.inj hS6)) (by decide +kernel)
  have loop : ∀ (s7 : Shared) (c : Nat), Inv X pins σ H s7 → s7.heap.get? S = some { cls := .type "list", data := .seq #[] c } → s7.heap.get? it = some (itTup t 0) →
      codeAny (model X.prog X.w) X.A.in1 (.builtin "list.extend.loop" ⟨[.ref S, .ref it, .none], []⟩) (wants (fun r s₂ => r = .none ∧ EP X pins σ Q (.ref S) s₂) X.xe) s7 := by
    intro s7 c J7 hS7 g7
    obtain ⟨its, rz, pl, hz2⟩ := J7.tuple ht
    have tne : t ≠ it := fun z => by
      obtain ⟨o, e1, e2, _⟩ := pl
      rw [z, g7] at e1
      rw [← Option.some.inj e1] at e2
      exact ty_ne (show Value.type "tuple_iterator" = Value.type "tuple" from e2) (by decide +kernel)
    have Sne : S ≠ it := fun z => by
      rw [z, g7] at hS7
      exact ty_ne (show Value.type "tuple_iterator" = Value.type "list" from congrArg Obj.cls (Option.some.inj hS7)) (by decide +kernel)
    have St : S ≠ t := fun z => by
      obtain ⟨o, e1, e2, _⟩ := pl
      rw [← z, hS7] at e1
      rw [← Option.some.inj e1] at e2
      exact ty_ne (show Value.type "list" = Value.type "tuple" from e2) (by decide +kernel)
    have li : its.length = zs.length := rz.length.symm
    have W := (PySem.Walks.tuple (prog := X.prog) (w := X.w) (A := X.A.in1.in1) sb1.room.hd it t tne its.toArray).toS
    refine PySem.codeAny_extend_loopS (A := X.A.in1) W (by rw [List.size_toArray, sizeLine_eq]; omega) S (fun z => ?_) .none _ 0 s7 #[] c rfl (Nat.zero_le _) ⟨⟨_, g7, rfl, rfl⟩, pl⟩ hS7 (PySem.ItemsOf.nil _) fun s8 acc c8 m hS8 hit => ?_
    · rcases List.mem_cons.mp z with z | z
      · exact Sne z
      · exact St (List.mem_singleton.mp z)
    have eacc : acc = its.toArray := by
      refine Array.ext_getElem? fun j => ?_
      by_cases hj : j < acc.size
      · rw [Array.getElem?_eq_getElem hj]
        exact (hit.2 j _ (Array.getElem?_eq_getElem hj)).symm
      · rw [Array.getElem?_eq_none (by omega), Array.getElem?_eq_none (by rw [← hit.1]; omega)]
    subst eacc
    have J8 := J7.turnedL (h' := s8.heap) (t' := s8.toks) (ch := [S, it]) (fun b o hb e => m.heap b o hb e) (fun b hb => by
      rcases List.mem_cons.mp hb with z | z
      · rw [z]; exact fS
      · rw [List.mem_singleton.mp z]; exact fIt2)
    have J9 := J8.take (h' := s8.heap) (t' := s8.toks) (it := S) (o := .lst zs) (fun _ _ _ e => e) fS ⟨by rw [sizeLine_eq]; omega, its, c8, rz, hS8⟩
    have e8 : s8 = { s7 with heap := s8.heap, toks := s8.toks } := Moved.eq_with m
    rw [e8]
    exact ⟨rfl, .ref S, _, J9, rfl, q S nS⟩
  refine wpAny_ite_split (fun _ => ?_) (fun _ => wpAny_pure ⟨plainId_quiet PySem.F.plain_extend_loop _, loop s6 _ I7 hS6 g6⟩)
  refine wpAny_bind (wpAny_rule ?_)
  refine wpAny_bind ?_
  show wpAny _ _ (updateSeq S (·.push .none) >>= fun _ => updateSeq S (·.pop)) _ _ _
  refine wpAny_bind (wpAny_updateSeq hS6 rfl ?_)
  have e9 := Heap.get?_update_self (h := s6.heap) (f := Obj.mapSeq (·.push Value.none)) hS6 rfl
  refine wpAny_updateSeq e9 rfl ?_ (by show 1 ≤ sizeLine; rw [sizeLine_eq]; decide) (by show 0 ≤ sizeLine + 1; exact Nat.zero_le _)
  have e10 := Heap.get?_update_self (h := s6.heap.update S (Obj.mapSeq (·.push Value.none))) (f := Obj.mapSeq (·.pop)) e9 rfl
  have J := I7.turnedL (h' := (s6.heap.update S (Obj.mapSeq (·.push Value.none))).update S (Obj.mapSeq (·.pop))) (t' := s6.toks) (ch := [S]) (fun b o hb e => (Heap.get?_update_other _ _ (fun z => hb (by simp [z]))).trans ((Heap.get?_update_other _ _ (fun z => hb (by simp [z]))).trans e)) (fun b hb => by rw [List.mem_singleton.mp hb]; exact fS)
  refine wpAny_pure ⟨plainId_quiet PySem.F.plain_extend_loop _, loop _ _ J e10 ?_⟩
  exact (Heap.get?_update_other _ _ Sne').trans ((Heap.get?_update_other _ _ Sne').trans g6)
end
end Tw

set_option Elab.async false
set_option linter.all false
set_option maxRecDepth 100000
set_option maxHeartbeats 2000000
/-! own rule: sorted(t), t a tuple of whole numbers -/
namespace Tw
open PySem PySem.Spec PyProof.Rows L2
section
variable {prog : Program} {w : World} {A : Around} {E : Value → Shared → Prop} {s : Shared}
/-- a tuple's items, gathered: they are met as a list's are -/
theorem gather_tup {t : Addr} {vs : List Value} {Q : List Value → Shared → Prop} (ht : s.heap.IsTuple t vs.toArray)
    (h : Q vs { s with heap := (s.heap.push (seqObj "list" #[] 0)).update s.heap.objs.size (Obj.mapSeq (· ++ vs.toArray)) }) (hz : vs.length ≤ sizeLine) :
    wpAny (model prog w) A (collect (.ref t)) Q E s := by
  obtain ⟨o, ho, hc, n, hd⟩ := ht
  unfold collect
  refine wpAny_bind (wpAny_runValue (codeAny_builtin entry_proto_collect' ?_))
  show wpAny _ _ (do again (.builtin "list.__iadd__" ⟨[← newList [], .ref t], []⟩)) _ _ s
  refine wpAny_bind (wpAny_newList (wpAny_pure ⟨Code.quiet_builtin _ (by decide +kernel), codeAny_builtin entry_list_iadd' ?_⟩))
  show wpAny _ _ (Builtin.List.listExtendWith (.ref s.heap.objs.size) (.ref t) (.ref s.heap.objs.size)) _ _ { s with heap := s.heap.push (seqObj "list" #[] 0) }
  have ho2 : (s.heap.push (seqObj "list" #[] 0)).get? t = some o := Heap.get?_push_of_some _ ho
  unfold Builtin.List.listExtendWith
  refine wpAny_bind (wpAny_typeOf (T := "tuple") ⟨o, ho2, hc⟩ ?_)
  have tt : (Value.type "tuple" == Value.type "tuple") = true := by rfl
  rw [if_pos (by rw [tt]; simp)]
  refine wpAny_bind (listItems_at ho2 hd ?_)
  refine wpAny_bind (listItems_at (xs := #[]) (n := 0) (Heap.get?_push_size _ rfl) rfl ?_)
  rw [if_neg (by simp)]
  refine wpAny_bind (listUpdate_at (xs := #[]) (n := 0) (Heap.get?_push_size _ rfl) rfl ?_ (Nat.zero_le _) (by show (#[] ++ vs.toArray).size ≤ sizeLine + 1; simp only [Array.size_append, List.size_toArray, List.length_nil]; omega))
  refine wpAny_pure ?_
  refine wpAny_bind (wpAny_load (get?_update_seq (Heap.get?_push_size _ rfl) _) ?_)
  show wpAny _ _ (pure ((#[] : Array Value) ++ vs.toArray).toList) Q E _
  rw [show ((#[] : Array Value) ++ vs.toArray).toList = vs by simp]
  exact wpAny_pure h
end
def rSortedTu (K : PySem.W.Frag) : List V → Hp → VK → Prop := fun vs H Q => ∃ (a : Addr) (ns : List Int), vs = [V.ref a] ∧ SqT K H a (ns.map V.int) ∧
  ∀ (ns' : List Int) (p : Addr), ns'.Perm ns → ns'.Pairwise (· ≤ ·) → H p = none → Q (.ref p) (upd H p (.lst (ns'.map V.int)))
section
variable {X : Cx}
theorem cr_sortedTu : CallR X (.builtin "sorted") (rSortedTu X.K) := by
  intro pins s σ H vs us Q I r h
  obtain ⟨a, ns, rfl, hs, q⟩ := h
  obtain ⟨its, rv, hl, hz⟩ := I.tuple hs
  rw [Vals.ref1 r]
  have hi := rv.ints
  have hzi : its.length ≤ sizeLine := by rw [← rv.length]; exact hz
  refine Calls.call_function_entry kind_sorted plain_sorted entry_sorted (args_sorted1 _) ?_
  unfold Builtin.«sorted»
  refine wpAny_bind (m := checkCount "sorted" 1 1 _) (wpAny_pure ?_)
  refine wpAny_bind (gather_tup hl ?_ hzi)
  refine wpAny_bind (wpAny_newList ?_ hzi)
  have hsz : ((s.heap.push (seqObj "list" #[] 0)).update s.heap.objs.size (Obj.mapSeq (· ++ its.toArray))).objs.size = s.heap.objs.size + 1 := by
    rw [Heap.size_update, size_push']
  have hoL : (((s.heap.push (seqObj "list" #[] 0)).update s.heap.objs.size (Obj.mapSeq (· ++ its.toArray))).push (seqObj "list" its.toArray 0)).get? (s.heap.objs.size + 1) = some (seqObj "list" its.toArray 0) := by
    rw [← hsz]
    exact Heap.get?_push_size _ rfl
  show wpAny _ _ _ _ _ { s with heap := ((s.heap.push (seqObj "list" #[] 0)).update s.heap.objs.size (Obj.mapSeq (· ++ its.toArray))).push (seqObj "list" its.toArray 0) }
  rw [hsz]
  refine wpAny_bind (wpAny_holding (wpAny_call_entry slot_list_sort ⟨_, hoL, rfl⟩ entry_list_sort (SrtO.list_sort_ord SrtO.swo_int hoL hzi (fun h2 => SrtO.ints_sortable hi h2) fun out h1 h2 => ⟨_, rfl, ?_⟩) (args_list_sort _)))
  refine wpAny_pure ⟨_, rfl, ?_⟩
  obtain ⟨k1, k2, k3⟩ := SrtO.ints_out hi h1 h2
  obtain ⟨ep, he'⟩ := PyProof.Rows.sortedAll_at s.heap its out.toArray
  have hlen : ((out.map SrtO.iv).map V.int).length ≤ sizeLine := by
    rw [List.length_map, k2.length_eq]
    rw [List.length_map] at hz
    exact hz
  exact ⟨.ref _, upd H (s.heap.objs.size + 1) (.lst ((out.map SrtO.iv).map V.int)), I.laid (t' := s.toks) (fun _ _ => PyProof.Rows.sortedAll_old) (Nat.le_succ _) ⟨hlen, out, ep, vals_of_ints k1, he'⟩, rfl, q _ _ k2 k3 (I.hok.fresh (Nat.le_succ _))⟩
end
end Tw

set_option Elab.async false
set_option linter.all false
set_option maxRecDepth 100000
set_option maxHeartbeats 1000000
/-! != of two tuples of two things, equal ones in turn -/
namespace Cq
open PySem PySem.SeqAt
open AutoSeq1 (wpAny_loadPart')
open MeetsSeq MeetsSeq2 MeetsSeq3 SeqRoads2
theorem pairs_ne {prog : Program} {w : World} {A : Around} {R : Result → Shared → Prop} {p q : Addr} {a b c e : Value} {k k2 : Nat} {u u2 : Option Addr} {z z2 : Array (Option Value)} {s : Shared}
    (hp : s.heap.get? p = some { cls := .type "tuple", dict := u, data := .seq #[a, b] k, slots := z }) (hq : s.heap.get? q = some { cls := .type "tuple", dict := u2, data := .seq #[c, e] k2, slots := z2 })
    (h : wpAny (model prog w) A.in1 (eqBool a c) (fun r s1 => r = true ∧ wpAny (model prog w) A.in1 (eqBool b e) (fun r s2 => r = true ∧ R (.ok (.ret (.bool false))) s2) (fun x s2 => R (.error x) s2) s1) (fun x s1 => R (.error x) s1) s) :
    wpAny (model prog w) A.in1 (Builtin.«tuple.__ne__» ⟨[.ref p, .ref q], []⟩) (GQ.FinOf prog w A R) (fun x s1 => R (.error x) s1) s := by
  have sub2 := AutoSeq1.sub_tuple_tuple
  obtain ⟨hh, gg, dd, tk, os⟩ := s
  wp_walk using wpAny_loadPart' hp, wpAny_loadPart' hq, wpAny_forIn_list _ (fun rest t s1 => t.1 = none ∧ ((rest = [(a, c), (b, e)] ∧ wpAny (model prog w) A.in1 (eqBool a c) (fun r s1 => r = true ∧ wpAny (model prog w) A.in1 (eqBool b e) (fun r s2 => r = true ∧ R (.ok (.ret (.bool false))) s2) (fun x s2 => R (.error x) s2) s1) (fun x s1 => R (.error x) s1) s1) ∨
    (rest = [(b, e)] ∧ wpAny (model prog w) A.in1 (eqBool b e) (fun r s2 => r = true ∧ R (.ok (.ret (.bool false))) s2) (fun x s2 => R (.error x) s2) s1) ∨ (rest = [] ∧ R (.ok (.ret (.bool false))) s1))) _
  case turn =>
    rintro ⟨y, x⟩ rest t s1 ⟨ht, ⟨e1, h1⟩ | ⟨e1, h1⟩ | ⟨e1, _⟩⟩
    · injection e1 with e1 e2
      injection e1 with e3 e4
      subst e3 e4 e2
      refine wpAny_bind (wpAny_mono h1 (fun r s2 g => ?_) fun _ _ g => g)
      obtain ⟨rfl, g⟩ := g
      wp_walk
      exact ⟨rfl, .inr (.inl ⟨rfl, g⟩)⟩
    · injection e1 with e1 e2
      injection e1 with e3 e4
      subst e3 e4 e2
      refine wpAny_bind (wpAny_mono h1 (fun r s2 g => ?_) fun _ _ g => g)
      obtain ⟨rfl, g⟩ := g
      wp_walk
      exact ⟨rfl, .inr (.inr ⟨rfl, g⟩)⟩
    · cases e1
  case fin =>
    rintro ⟨t1, t2⟩ s1 ⟨ht, ⟨e1, _⟩ | ⟨e1, _⟩ | ⟨_, h1⟩⟩
    · cases e1
    · cases e1
    · simp only at ht
      subst ht
      wp_walk
      simpa [Builtin.Tuple.tupleCompareSizes] using h1
  case h => exact ⟨rfl, .inl ⟨rfl, h⟩⟩
end Cq
namespace L2
open PySem PySem.Spec PyProof.Rows
theorem vals_two {a b : V} {l : List Value} (r : Vals [a, b] l) : ∃ x y, l = [x, y] ∧ RelV a x ∧ RelV b y := by
  cases r with
  | cons ra r =>
    cases r with
    | cons rb r =>
      cases r
      exact ⟨_, _, rfl, ra, rb⟩
def DPair (K : PySem.W.Frag) (D1 D2 : Eqv) : Eqv := fun x y H => ∃ (p q : Addr) (a b c e : V), x = .ref p ∧ y = .ref q ∧ SqT K H p [a, b] ∧ SqT K H q [c, e] ∧ D1 a c H ∧ D2 b e H
def rNeP (D : Eqv) : R2 := fun x y H Q => D x y H ∧ ∀ H', Ext H H' → Q (.bl false) H'
theorem op_neP {X : Cx} {n : Nat} {D1 D2 : Eqv} (g1 : EqG X n D1) (g2 : EqG X n D2) (m2 : Mon D2) (hr : Room (n + 1) X.A) : OpR X (compareOp .NotEq) (rNeP (DPair X.K D1 D2)) := by
  intro pins s σ H x y v u Q I rx ry ⟨⟨p, q, a, b, c, e, ex, ey, hp, hq, d1, d2⟩, k⟩
  subst ex ey
  cases rx
  cases ry
  have sb : Sub X (n + 1) X.A := ⟨hr, rfl⟩
  obtain ⟨its, r, e1, _⟩ := I.tuple hp
  obtain ⟨its2, r2, e2, _⟩ := I.tuple hq
  obtain ⟨va, vb, ei, ra, rb⟩ := vals_two r
  obtain ⟨vc, ve, ei2, rc, re⟩ := vals_two r2
  subst ei ei2
  obtain ⟨⟨cl, u1, da, z1⟩, o1, c1, n1, w1⟩ := id e1
  obtain ⟨⟨cl2, u2, da2, z2⟩, o2, c2, n2, w2⟩ := id e2
  dsimp only at c1 w1 c2 w2
  subst c1 w1 c2 w2
  show wpAny (model X.prog X.w) X.A (richCompare .NotEq (.ref p) (.ref q)) (EP X pins σ Q) X.xe s
  refine wpAny_richCompare_same_room (op := .NotEq) ⟨_, o1, rfl⟩ ⟨_, o2, rfl⟩ F.slot_tuple_ne (GQ.call_here F.slot_tuple_ne ⟨_, o1, rfl⟩ F.entry_tuple_ne (F.args_tuple_ne_2 _ _) ?_) hr.units0
  refine Cq.pairs_ne (R := wants (fun v s' => v ≠ .notImplemented ∧ EP X pins σ Q v s') X.xe) o1 o2 ?_
  refine wpAny_mono (g1 X.A.in1 pins s σ H _ _ va vc sb.in1 I ra rc d1) (fun t s1 ⟨ht, H1, I1, x1⟩ => ⟨ht, ?_⟩) fun _ _ g => g
  refine wpAny_mono (g2 X.A.in1 pins s1 σ H1 _ _ vb ve sb.in1 I1 rb re (m2 _ _ _ _ x1 d2)) (fun t s2 ⟨ht, H2, I2, x2⟩ => ⟨ht, ?_⟩) fun _ _ g => g
  exact ⟨(fun g => nomatch g), .bl false, H2, I2, rfl, k H2 (x1.trans x2)⟩
end L2


set_option Elab.async false
set_option linter.all false
set_option maxRecDepth 100000
set_option maxHeartbeats 4000000
/-! set(xs), xs a list of ints, as a value -/
namespace L2
open PySem PySem.Spec PyProof.Rows
section
variable {P : Program} {w : World} {A : Around} {E : Value → Shared → Prop}
/-- the set that is there at first -/
abbrev eS (w : World) : Obj := { cls := .type "set", dict := none, data := .set #[] 0 (.fresh 0 0 (!w.params.followText "set-order")) }
theorem init_over {z : Shared} {D l : Addr} {items : Array Value} {ns : List Int} {R : Result → Shared → Prop} (hh : A.handled = none) (hD : z.heap.get? D = some (eS w)) (hl : z.heap.IsList l items) (hit : IntsAre items.toList ns) (hb : ns.length + 1 < scanBound) (hne : l ≠ D)
    (q : ∀ (h' : Heap) (tk c : Nat), SetR w h' D (fun j => decide (j ∈ ns)) c → c ≤ ns.length → (∀ b o, b ≠ D → z.heap.get? b = some o → h'.get? b = some o) → R (.ok (.ret .none)) { z with heap := h', toks := tk }) :
    codeAny (model P w) A (.call (.builtin "set.__init__") ⟨[.ref D, .ref l], []⟩) R z := by
  have hn : items.size = ns.length := by
    have e := IntsAre.length hit
    rw [Array.length_toList] at e
    exact e
  have hT : Shared.TypeIs z (.ref D) "set" := ⟨_, hD, rfl⟩
  have lD : D < z.heap.objs.size := Heap.lt_size hD
  obtain ⟨⟨oc, od, oa, os⟩, hol, hcl, nl, hdl⟩ := id hl
  have ll : l < z.heap.objs.size := Heap.lt_size hol
  dsimp only at hcl hdl
  subst hcl hdl
  have no1 := F.sub_list_set
  have no2 := F.sub_list_frozenset
  have no3 : (Value.type "list" == Value.type "dict") = false := by decide
  refine codeAny_call_builtin F.called_set.init.plain F.entry_set_init (check_set_init_1 hT ?_)
  unfold Builtin.«set.__init__» noKeywords Builtin.Frozenset.updateFrom
  generalize hPI : pyIter = PI
  wp_walk
  subst hPI
  refine wpAny_pyIter_list hl ?_
  refine wpAny_bind (wpAny_runValue ?_)
  have free3 : A.in1.in1.handled = none := by simp [hh]
  have apart : l ≠ z.heap.objs.size := Nat.ne_of_lt ll
  have offS : D ∉ [z.heap.objs.size, l] := fun m => by
    rcases List.mem_cons.mp m with y | y
    · exact absurd y (Nat.ne_of_lt lD)
    · exact hne (List.mem_singleton.mp y).symm
  have each : ∀ (i : Nat) (v : Value), items[i]? = some v → ∃ k t, ns[i]? = some k ∧ v = .int k t := fun i v e => by
    have hi : i < ns.length := hn ▸ (Array.getElem?_eq_some_iff.mp e).1
    obtain ⟨t, e2⟩ := IntsAre.int_at hit i v (by rw [Array.getElem?_toList]; exact e)
    exact ⟨ns[i], t, List.getElem?_eq_getElem hi, by rw [e2, List.getD_eq_getElem?_getD, List.getElem?_eq_getElem hi]; rfl⟩
  refine set_update_ints ((Walks.list free3 _ l apart items).toS) D offS ns hn hb each (items.size - 0) 0 _ (by omega) (Nat.zero_le _) ?_ ⟨0, Nat.le_refl 0, ?_⟩ ?_
  · exact ⟨⟨_, Heap.get?_push_size _ rfl, rfl, rfl⟩, hl.push _⟩
  · exact setR_new_at (Heap.get?_push_of_some _ hD)
  rintro ⟨h', gens', drawn', tk', os'⟩ c moved hc new
  obtain rfl : gens' = z.gens := moved.gens
  obtain rfl : drawn' = z.drawn := moved.drawn
  obtain rfl : os' = z.os := moved.os
  show wpAny _ _ _ _ _ _
  refine wpAny_pure ?_
  show wpAny _ _ (ret Value.none) _ _ _
  refine wpAny_pure (q h' tk' c new (by omega) fun b o hbD e => ?_)
  have lb : b < z.heap.objs.size := Heap.lt_size e
  refine moved.heap b o (fun m => ?_) (Heap.get?_push_of_some _ e)
  rcases List.mem_cons.mp m with y | y
  · exact hbD y
  · exact absurd (List.mem_singleton.mp y) (Nat.ne_of_lt lb)
theorem set_over {z : Shared} {l : Addr} {items : Array Value} {ns : List Int} {Q : Value → Shared → Prop} (hh : A.handled = none) (hl : z.heap.IsList l items) (hit : IntsAre items.toList ns) (hb : ns.length + 1 < scanBound)
    (q : ∀ (h' : Heap) (tk c : Nat), SetR w h' z.heap.objs.size (fun j => decide (j ∈ ns)) c → c ≤ ns.length → (∀ b o, z.heap.get? b = some o → h'.get? b = some o) → Q (.ref z.heap.objs.size) { z with heap := h', toks := tk }) :
    wpAny (model P w) A (call (.type "set") [.ref l]) Q E z := by
  obtain ⟨c0, t0, mro0⟩ := F.called_set.mro
  have m1 := F.called_set.made
  have m2 := F.called_set.sub
  have m3 := F.called_set.notType
  have m4 := F.called_set.canCreate
  have m5 := F.typeCall_set_1 (.ref l)
  have ll : l < z.heap.objs.size := by
    obtain ⟨o, ho, _⟩ := id hl
    exact Heap.lt_size ho
  refine wpAny_call (codeAny_of_tree ?_)
  show wpAny _ _ (callAny (.type "set") _) _ _ _
  refine wpAny_pure ⟨Code.quiet_builtin _ (by decide +kernel), codeAny_builtin F.entry_type_call ?_⟩
  rw [Around.under_plain (weight_type_call_type "set" [.ref l] []) rfl]
  repeat any_goals first | assumption | wp_step
  have new1 : (z.heap.push (eS w)).get? z.heap.objs.size = some (eS w) := Heap.get?_push_size _ rfl
  refine codeAny_mono (code_set_led1 (.ref l) (E := E) (Q₁ := fun v y => v = .ref z.heap.objs.size ∧ y = { z with heap := z.heap.push (eS w) }) ⟨rfl, rfl⟩) fun r y hr => ?_
  cases r with
  | error e => exact hr
  | ok fl =>
    cases fl with
    | ret v =>
      obtain ⟨rfl, rfl⟩ := hr
      have hT : Shared.TypeIs { z with heap := z.heap.push (eS w) } (.ref z.heap.objs.size) "set" := ⟨_, new1, rfl⟩
      have i1 := F.called_set.init.lookup
      have i2 := F.called_set.init.bind (.ref z.heap.objs.size)
      repeat any_goals first | assumption | wp_step
      refine init_over (A := A.in1) (z := { z with heap := z.heap.push (eS w) }) (D := z.heap.objs.size) (by simp [hh]) new1 (hl.push _) hit hb (Nat.ne_of_lt ll) fun h' tk c S hc k => ?_
      show wpAny _ _ (pure (some Value.none)) _ _ _
      repeat any_goals first | assumption | wp_step
      exact q h' tk c S hc fun b o e => k b o (Nat.ne_of_lt (Heap.lt_size e)) (Heap.get?_push_of_some _ e)
    | _ => exact hr.elim
end
section
variable {X : Cx}
/-- set(xs) -/
def rSetLI (K : PySem.W.Frag) (w : World) : List V → Hp → VK → Prop := fun xs H Q => ∃ (l : Addr) (ns : List Int), xs = [V.ref l] ∧ SqL K H l (ns.map V.int) ∧ ns.length ≤ 1000 ∧ ∀ p n, n ≤ ns.length → H p = none → Q (.ref p) (upd H p (SetO w p (fun j => decide (j ∈ ns)) n))
theorem cr_setLI (hc : X.calm = true) : CallR X (.type "set") (rSetLI X.K X.w) := by
  intro pins s σ H xs us Q I r h
  obtain ⟨l, ns, rfl, hl, h1, q⟩ := h
  obtain ⟨its, rv, pl, _⟩ := I.list hl
  rw [Vals.ref1 r]
  refine set_over (I.ok.hd hc) pl.isList (ns := ns) (by simpa using rv.ints) (by unfold scanBound; omega) fun h' tk c R hc k => ?_
  exact ⟨.ref _, upd H s.heap.objs.size (SetO X.w s.heap.objs.size (fun j => decide (j ∈ ns)) c), I.laid (t' := tk) k (Nat.le_refl _) (setO_new R), rfl, q _ c hc (I.hok.fresh (Nat.le_refl _))⟩
end
end L2

set_option Elab.async false
set_option linter.all false
set_option maxRecDepth 100000
set_option maxHeartbeats 4000000
/-! sorted(xs), xs a list of tuples of ints, as long as a list may be -/
namespace L2
open PySem PySem.Spec PyProof.Rows PySem.W
abbrev tupE (ns : List Int) : PyData := .tuple (ns.map .int)
theorem tupE_le : dataLe false tupE = fun p q => decide (p ≤ q) := by
  funext p q
  show (!dataLt (.tuple (q.map .int)) (.tuple (p.map .int))) = _
  rw [dataLt_tuple]
  show (!rowLt (q.map .int) (p.map .int)) = _
  rw [dataLt_ints]
  by_cases h : q < p
  · have h' : ¬ p ≤ q := fun r => List.not_lt.mpr r h
    simp [h, h']
  · have h' : p ≤ q := List.not_lt.mp h
    simp [h, h']
section
variable {X : Cx} {pins : List (Addr × Obj)} {σ : St} {H : Hp} {s : Shared}
abbrev TupV (K : PySem.W.Frag) (H : Hp) (u : Value) (ns : List Int) : Prop := ∃ t, u = .ref t ∧ SqT K H t (ns.map V.int)
theorem tupV_of : ∀ {xs : List V} {bs : List (List Int)} {us : List Value}, Paired (TupI X.K H) xs bs → Vals xs us → EachIs (TupV X.K H) us bs
  | _, _, _, .nil, .nil => .nil
  | _, _, _, .cons ⟨t, e, h⟩ p, .cons r v => by
    subst e
    cases r
    exact .cons ⟨t, rfl, h⟩ (tupV_of p v)
theorem tupV_to : ∀ {bs : List (List Int)} {us : List Value}, EachIs (TupV X.K H) us bs → Paired (TupI X.K H) (us.map bkV) bs ∧ ∀ u ∈ us, ∃ a, u = Value.ref a
  | _, _, .nil => ⟨.nil, fun u hu => absurd hu (by simp)⟩
  | _, _, .cons ⟨t, e, h⟩ p => by
    subst e
    obtain ⟨h1, h2⟩ := tupV_to p
    refine ⟨.cons ⟨t, rfl, h⟩ h1, fun u hu => ?_⟩
    rcases List.mem_cons.mp hu with e | hu
    · exact ⟨t, e⟩
    · exact h2 u hu
theorem tupV_reads (I : Inv X pins σ H s) {u : Value} {ns : List Int} (h : TupV X.K H u ns) : ∃ as, Reads s.heap u (tupE ns) as := by
  obtain ⟨t, rfl, ht⟩ := h
  obtain ⟨its, rv, hT, _⟩ := I.tuple ht
  exact ⟨_, reads_tuple_ints hT (by simpa using rv.ints)⟩
/-- sorted(xs): the items ascending as tuples are -/
def rSortTA (K : PySem.W.Frag) : List V → Hp → VK → Prop := fun vs H Q => ∃ (a : Addr) (xs : List V) (bs : List (List Int)), vs = [V.ref a] ∧ SqL K H a xs ∧ Paired (TupI K H) xs bs ∧ (∀ b ∈ bs, b ≠ []) ∧
  ∀ (ys : List V) (p : Addr), Paired (TupI K H) ys (bs.mergeSort fun p q => decide (p ≤ q)) → H p = none → Q (.ref p) (upd H p (.lst ys))
theorem cr_sortTA (hu : X.A.units + 65 < cLine) : CallR X (.builtin "sorted") (rSortTA X.K) := by
  intro pins s σ H vs us Q I r h
  obtain ⟨a, xs, bs, rfl, hs, hp, hne, q⟩ := h
  obtain ⟨its, rv, hl, hz⟩ := I.list hs
  rw [Vals.ref1 r]
  have e0 : EachIs (TupV X.K H) its bs := tupV_of hp rv
  have hlen : bs.length = xs.length := (Paired.length hp).symm
  refine sorted_data (A := X.A) (R := TupV X.K H) (enc := tupE) hl.isList e0 (e0.mono fun u ns h => tupV_reads I h) (AllAlike.of fun b b' => by simp [alike, alike_ints]) (.inl fun d hd => ?_) (by rw [hlen]; exact hz) (fun b _ => ?_) fun out ho eo => ?_
  · obtain ⟨b, hb, rfl⟩ := List.mem_map.mp hd
    match b, hne b hb with
    | x :: r, _ => exact ⟨_, _, rfl⟩
  · have : (tupE b).depth ≤ 1 := by simp [PyData.depth, depth_ints]
    omega
  · rw [tupE_le] at eo
    obtain ⟨e1, e2⟩ := tupV_to eo
    obtain ⟨ep, he'⟩ := PyProof.Rows.sortedAll_at s.heap its out.toArray
    have hz2 : (out.map bkV).length ≤ sizeLine := by
      rw [List.length_map, ho, hlen]
      exact hz
    exact ⟨.ref _, upd H (s.heap.objs.size + 1) (.lst (out.map bkV)), I.laid (t' := s.toks) (fun _ _ => PyProof.Rows.sortedAll_old) (Nat.le_succ _) ⟨hz2, out, ep, bkV_vals e2, he'⟩, rfl, q _ _ e1 (I.hok.fresh (Nat.le_succ _))⟩
end
end L2

set_option Elab.async false
set_option linter.all false
set_option maxRecDepth 100000
set_option maxHeartbeats 2000000
namespace Tw
open PySem PySem.Spec PyProof.Rows L2
def topS (i : Nat) : Stmt := PySem.Challenge.pw_heaprows_k26_whole_looks.main.body.getD i (.Pass ⟨0, 0, 0, 0⟩)
abbrev s_is_integer : Stmt := topS 14
theorem sc_is_integer : FnScope ["thing"] ["thing"] (defScope s_is_integer) := ⟨rfl, rfl, rfl, by decide +kernel, rfl, by decide +kernel, by decide +kernel⟩
abbrev s_is_integer_from : Stmt := topS 15
theorem sc_is_integer_from : FnScope ["thing", "least", "greatest"] ["thing", "least", "greatest"] (defScope s_is_integer_from) := ⟨rfl, rfl, rfl, by decide +kernel, rfl, by decide +kernel, by decide +kernel⟩
abbrev s_is_key : Stmt := topS 16
theorem sc_is_key : FnScope ["thing"] ["thing"] (defScope s_is_key) := ⟨rfl, rfl, rfl, by decide +kernel, rfl, by decide +kernel, by decide +kernel⟩
abbrev s_check_arms : Stmt := topS 17
theorem sc_check_arms : FnScope ["arms"] ["arms"] (defScope s_check_arms) := ⟨rfl, rfl, rfl, by decide +kernel, rfl, by decide +kernel, by decide +kernel⟩
abbrev s_check_many : Stmt := topS 18
theorem sc_check_many : FnScope ["many"] ["many"] (defScope s_check_many) := ⟨rfl, rfl, rfl, by decide +kernel, rfl, by decide +kernel, by decide +kernel⟩
abbrev s_check_place : Stmt := topS 19
theorem sc_check_place : FnScope ["place", "many"] ["place", "many"] (defScope s_check_place) := ⟨rfl, rfl, rfl, by decide +kernel, rfl, by decide +kernel, by decide +kernel⟩
abbrev s_check_few : Stmt := topS 20
theorem sc_check_few : FnScope ["row", "most"] ["row", "most"] (defScope s_check_few) := ⟨rfl, rfl, rfl, by decide +kernel, rfl, by decide +kernel, by decide +kernel⟩
abbrev s_row_of : Stmt := topS 21
theorem sc_row_of : FnScope ["row", "index", "key"] ["row"] (defScope s_row_of) := ⟨rfl, rfl, rfl, by decide +kernel, rfl, by decide +kernel, by decide +kernel⟩
abbrev s_t___init__ : Stmt := inClass (topS 23) 0
theorem sc_t___init__ : FnScope ["self", "many", "arms"] ["self", "many", "arms"] (defScope s_t___init__) := ⟨rfl, rfl, rfl, by decide +kernel, rfl, by decide +kernel, by decide +kernel⟩
abbrev s_t_of : Stmt := inClass (topS 23) 1
theorem sc_t_of : FnScope ["cls", "row", "arms"] ["cls", "row", "arms"] (defScope s_t_of) := ⟨rfl, rfl, rfl, by decide +kernel, rfl, by decide +kernel, by decide +kernel⟩
abbrev s_t___len__ : Stmt := inClass (topS 23) 2
theorem sc_t___len__ : FnScope ["self"] ["self"] (defScope s_t___len__) := ⟨rfl, rfl, rfl, by decide +kernel, rfl, by decide +kernel, by decide +kernel⟩
abbrev s_t___iter__ : Stmt := inClass (topS 23) 4
theorem sc_t___iter__ : FnScope ["self"] ["self"] (defScope s_t___iter__) := ⟨rfl, rfl, rfl, by decide +kernel, rfl, by decide +kernel, by decide +kernel⟩
abbrev s_t___getitem__ : Stmt := inClass (topS 23) 5
theorem sc_t___getitem__ : FnScope ["self", "place", "first"] ["self", "place"] (defScope s_t___getitem__) := ⟨rfl, rfl, rfl, by decide +kernel, rfl, by decide +kernel, by decide +kernel⟩
abbrev s_t_parent : Stmt := inClass (topS 23) 7
theorem sc_t_parent : FnScope ["self", "place"] ["self", "place"] (defScope s_t_parent) := ⟨rfl, rfl, rfl, by decide +kernel, rfl, by decide +kernel, by decide +kernel⟩
abbrev s_t_way_to : Stmt := inClass (topS 23) 8
theorem sc_t_way_to : FnScope ["self", "place", "way", "above"] ["self", "place"] (defScope s_t_way_to) := ⟨rfl, rfl, rfl, by decide +kernel, rfl, by decide +kernel, by decide +kernel⟩
abbrev s_faults : Stmt := topS 25
theorem sc_faults : FnScope ["row", "arms", "tree", "place"] ["row", "arms"] (defScope s_faults) := ⟨rfl, rfl, rfl, by decide +kernel, rfl, by decide +kernel, by decide +kernel⟩
abbrev s_heap_of : Stmt := topS 26
theorem sc_heap_of : FnScope ["row", "arms", "wrong"] ["row", "arms"] (defScope s_heap_of) := ⟨rfl, rfl, rfl, by decide +kernel, rfl, by decide +kernel, by decide +kernel⟩
abbrev s_next_keys : Stmt := topS 30
theorem sc_next_keys : FnScope ["keys", "heap", "parent", "left", "used", "key"] ["keys", "heap", "parent"] (defScope s_next_keys) := ⟨rfl, rfl, rfl, by decide +kernel, rfl, by decide +kernel, by decide +kernel⟩
abbrev s_all_heaps : Stmt := topS 29
theorem sc_all_heaps : FnScope ["keys", "arms", "tree", "heaps", "place", "heap", "key"] ["keys", "arms"] (defScope s_all_heaps) := ⟨rfl, rfl, rfl, by decide +kernel, rfl, by decide +kernel, by decide +kernel⟩
abbrev s_z___init__ : Stmt := inClass (topS 32) 0
theorem sc_z___init__ : FnScope ["self", "row", "way", "looks"] ["self", "row", "way", "looks"] (defScope s_z___init__) := ⟨rfl, rfl, rfl, by decide +kernel, rfl, by decide +kernel, by decide +kernel⟩
abbrev s_z___eq__ : Stmt := inClass (topS 32) 1
theorem sc_z___eq__ : FnScope ["self", "other"] ["self", "other"] (defScope s_z___eq__) := ⟨rfl, rfl, rfl, by decide +kernel, rfl, by decide +kernel, by decide +kernel⟩
abbrev s_sift_up : Stmt := topS 33
theorem sc_sift_up : FnScope ["row", "place", "arms", "tree", "above", "keys", "way", "looks", "parent", "here"] ["row", "place", "arms"] (defScope s_sift_up) := ⟨rfl, rfl, rfl, by decide +kernel, rfl, by decide +kernel, by decide +kernel⟩
abbrev s_sift_down : Stmt := topS 34
theorem sc_sift_down : FnScope ["row", "place", "arms", "tree", "children", "keys", "way", "looks", "here", "child"] ["row", "place", "arms"] (defScope s_sift_down) := ⟨rfl, rfl, rfl, by decide +kernel, rfl, by decide +kernel, by decide +kernel⟩
abbrev s_least_child : Stmt := topS 35
theorem sc_least_child : FnScope ["keys", "children"] ["keys", "children"] (defScope s_least_child) := ⟨rfl, rfl, rfl, by decide +kernel, rfl, by decide +kernel, by decide +kernel⟩
abbrev s_take : Stmt := topS 37
theorem sc_take : FnScope ["row", "arms", "heap"] ["row", "arms"] (defScope s_take) := ⟨rfl, rfl, rfl, by decide +kernel, rfl, by decide +kernel, by decide +kernel⟩
abbrev s_take_by_hole : Stmt := topS 38
theorem sc_take_by_hole : FnScope ["row", "arms", "heap", "keys", "tree", "looks", "hole", "child", "sift"] ["row", "arms"] (defScope s_take_by_hole) := ⟨rfl, rfl, rfl, by decide +kernel, rfl, by decide +kernel, by decide +kernel⟩
abbrev s_filled_heap_of : Stmt := topS 39
theorem sc_filled_heap_of : FnScope ["row", "arms", "heap"] ["row", "arms"] (defScope s_filled_heap_of) := ⟨rfl, rfl, rfl, by decide +kernel, rfl, by decide +kernel, by decide +kernel⟩
abbrev s_check_filled : Stmt := topS 40
theorem sc_check_filled : FnScope ["heap"] ["heap"] (defScope s_check_filled) := ⟨rfl, rfl, rfl, by decide +kernel, rfl, by decide +kernel, by decide +kernel⟩
abbrev s_looks_of : Stmt := topS 43
theorem sc_looks_of : FnScope ["row", "arms", "heap"] ["row", "arms"] (defScope s_looks_of) := ⟨rfl, rfl, rfl, by decide +kernel, rfl, by decide +kernel, by decide +kernel⟩
abbrev s_looks_over : Stmt := topS 44
theorem sc_looks_over : FnScope ["many", "arms", "places", "looks", "heap", "down", "_", "by_hole"] ["many", "arms"] (defScope s_looks_over) := ⟨rfl, rfl, rfl, by decide +kernel, rfl, by decide +kernel, by decide +kernel⟩
abbrev s__law_number : Stmt := topS 46
theorem sc__law_number : FnScope ["script", "index", "cells", "cell", "low", "high", "total", "blend"] ["script", "index"] (defScope s__law_number) := ⟨rfl, rfl, rfl, by decide +kernel, rfl, by decide +kernel, by decide +kernel⟩
abbrev s__law_take : Stmt := topS 47
theorem sc__law_take : FnScope ["draw", "many"] ["draw", "many"] (defScope s__law_take) := ⟨rfl, rfl, rfl, by decide +kernel, rfl, by decide +kernel, by decide +kernel⟩
abbrev s__law_pick : Stmt := topS 48
theorem sc__law_pick : FnScope ["draw", "things"] ["draw", "things"] (defScope s__law_pick) := ⟨rfl, rfl, rfl, by decide +kernel, rfl, by decide +kernel, by decide +kernel⟩
abbrev s__law_parent : Stmt := topS 49
theorem sc__law_parent : FnScope ["wide", "place"] ["wide", "place"] (defScope s__law_parent) := ⟨rfl, rfl, rfl, by decide +kernel, rfl, by decide +kernel, by decide +kernel⟩
abbrev s__law_children : Stmt := topS 50
theorem sc__law_children : FnScope ["wide", "many", "place", "other"] ["wide", "many", "place"] (defScope s__law_children) := ⟨rfl, rfl, rfl, by decide +kernel, rfl, by decide +kernel, by decide +kernel⟩
abbrev s__law_way : Stmt := topS 51
theorem sc__law_way : FnScope ["wide", "place", "way", "lap"] ["wide", "place"] (defScope s__law_way) := ⟨rfl, rfl, rfl, by decide +kernel, rfl, by decide +kernel, by decide +kernel⟩
abbrev s__law_arms : Stmt := topS 52
theorem sc__law_arms : FnScope ["draw"] ["draw"] (defScope s__law_arms) := ⟨rfl, rfl, rfl, by decide +kernel, rfl, by decide +kernel, by decide +kernel⟩
abbrev s__law_keys : Stmt := topS 53
theorem sc__law_keys : FnScope ["draw", "most", "span", "turn"] ["draw", "most", "span"] (defScope s__law_keys) := ⟨rfl, rfl, rfl, by decide +kernel, rfl, by decide +kernel, by decide +kernel⟩
abbrev s__law_is_heap : Stmt := topS 54
theorem sc__law_is_heap : FnScope ["row", "wide", "place", "above"] ["row", "wide"] (defScope s__law_is_heap) := ⟨rfl, rfl, rfl, by decide +kernel, rfl, by decide +kernel, by decide +kernel⟩
abbrev s__law_lists : Stmt := topS 55
theorem sc__law_lists : FnScope ["keys", "found", "at", "key", "rest", "row"] ["keys"] (defScope s__law_lists) := ⟨rfl, rfl, rfl, by decide +kernel, rfl, by decide +kernel, by decide +kernel⟩
abbrev s__law_heaps : Stmt := topS 56
theorem sc__law_heaps : FnScope ["keys", "wide", "row"] ["keys", "wide"] (defScope s__law_heaps) := ⟨rfl, rfl, rfl, by decide +kernel, rfl, by decide +kernel, by decide +kernel⟩
abbrev s__law_heap : Stmt := topS 57
theorem sc__law_heap : FnScope ["keys", "wide", "row", "key", "place", "lap", "above"] ["keys", "wide"] (defScope s__law_heap) := ⟨rfl, rfl, rfl, by decide +kernel, rfl, by decide +kernel, by decide +kernel⟩
abbrev s__law_up : Stmt := topS 58
theorem sc__law_up : FnScope ["row", "wide", "place", "late", "way", "looks", "lap", "here", "above"] ["row", "wide", "place"] (defScope s__law_up) := ⟨rfl, rfl, rfl, by decide +kernel, rfl, by decide +kernel, by decide +kernel⟩
abbrev s__law_down : Stmt := topS 59
theorem sc__law_down : FnScope ["row", "wide", "place", "late", "way", "looks", "lap", "below", "least", "other"] ["row", "wide", "place"] (defScope s__law_down) := ⟨rfl, rfl, rfl, by decide +kernel, rfl, by decide +kernel, by decide +kernel⟩
abbrev s__law_hole : Stmt := topS 60
theorem sc__law_hole : FnScope ["row", "wide", "late", "last", "place", "looks", "lap", "below", "least", "other", "found"] ["row", "wide"] (defScope s__law_hole) := ⟨rfl, rfl, rfl, by decide +kernel, rfl, by decide +kernel, by decide +kernel⟩
abbrev s__law_out : Stmt := topS 61
theorem sc__law_out : FnScope ["row", "wide"] ["row", "wide"] (defScope s__law_out) := ⟨rfl, rfl, rfl, by decide +kernel, rfl, by decide +kernel, by decide +kernel⟩
abbrev s__law_ways_to : Stmt := topS 62
theorem sc__law_ways_to : FnScope ["wide", "many"] ["wide", "many"] (defScope s__law_ways_to) := ⟨rfl, rfl, rfl, by decide +kernel, rfl, by decide +kernel, by decide +kernel⟩
abbrev s_law : Stmt := topS 63
theorem sc_law : FnScope ["script", "draw", "turn", "wide", "row", "many", "rows", "due"] ["script"] (defScope s_law) := ⟨rfl, rfl, rfl, by decide +kernel, rfl, by decide +kernel, by decide +kernel⟩
/-- where the text's defs stand -/
structure Ad where
  f_is_integer : Addr
  d_is_integer : FuncData
  f_is_integer_from : Addr
  d_is_integer_from : FuncData
  f_is_key : Addr
  d_is_key : FuncData
  f_check_arms : Addr
  d_check_arms : FuncData
  f_check_many : Addr
  d_check_many : FuncData
  f_check_place : Addr
  d_check_place : FuncData
  f_check_few : Addr
  d_check_few : FuncData
  f_row_of : Addr
  d_row_of : FuncData
  f_t___init__ : Addr
  d_t___init__ : FuncData
  f_t_of : Addr
  d_t_of : FuncData
  f_t___len__ : Addr
  d_t___len__ : FuncData
  f_t___iter__ : Addr
  d_t___iter__ : FuncData
  f_t___getitem__ : Addr
  d_t___getitem__ : FuncData
  f_t_parent : Addr
  d_t_parent : FuncData
  f_t_way_to : Addr
  d_t_way_to : FuncData
  f_faults : Addr
  d_faults : FuncData
  f_heap_of : Addr
  d_heap_of : FuncData
  f_next_keys : Addr
  d_next_keys : FuncData
  f_all_heaps : Addr
  d_all_heaps : FuncData
  f_z___init__ : Addr
  d_z___init__ : FuncData
  f_z___eq__ : Addr
  d_z___eq__ : FuncData
  f_sift_up : Addr
  d_sift_up : FuncData
  f_sift_down : Addr
  d_sift_down : FuncData
  f_least_child : Addr
  d_least_child : FuncData
  f_take : Addr
  d_take : FuncData
  f_take_by_hole : Addr
  d_take_by_hole : FuncData
  f_filled_heap_of : Addr
  d_filled_heap_of : FuncData
  f_check_filled : Addr
  d_check_filled : FuncData
  f_looks_of : Addr
  d_looks_of : FuncData
  f_looks_over : Addr
  d_looks_over : FuncData
  f__law_number : Addr
  d__law_number : FuncData
  f__law_take : Addr
  d__law_take : FuncData
  f__law_pick : Addr
  d__law_pick : FuncData
  f__law_parent : Addr
  d__law_parent : FuncData
  f__law_children : Addr
  d__law_children : FuncData
  f__law_way : Addr
  d__law_way : FuncData
  f__law_arms : Addr
  d__law_arms : FuncData
  f__law_keys : Addr
  d__law_keys : FuncData
  f__law_is_heap : Addr
  d__law_is_heap : FuncData
  f__law_lists : Addr
  d__law_lists : FuncData
  f__law_heaps : Addr
  d__law_heaps : FuncData
  f__law_heap : Addr
  d__law_heap : FuncData
  f__law_up : Addr
  d__law_up : FuncData
  f__law_down : Addr
  d__law_down : FuncData
  f__law_hole : Addr
  d__law_hole : FuncData
  f__law_out : Addr
  d__law_out : FuncData
  f__law_ways_to : Addr
  d__law_ways_to : FuncData
  f_law : Addr
  d_law : FuncData
  C : Addr
  po : Addr
  CS : Addr
  c_least_child : Addr
  P_least_child : Addr
/-- what the top has written -/
structure Tx (K : PySem.W.Frag) (mg : Str → Option Value) (A : Ad) : Prop where
  F_is_integer : Fun K "is_integer" "is_integer" s_is_integer A.f_is_integer A.d_is_integer
  m_is_integer : mg "is_integer" = some (.ref A.f_is_integer)
  F_is_integer_from : Fun K "is_integer_from" "is_integer_from" s_is_integer_from A.f_is_integer_from A.d_is_integer_from
  m_is_integer_from : mg "is_integer_from" = some (.ref A.f_is_integer_from)
  F_is_key : Fun K "is_key" "is_key" s_is_key A.f_is_key A.d_is_key
  m_is_key : mg "is_key" = some (.ref A.f_is_key)
  F_check_arms : Fun K "check_arms" "check_arms" s_check_arms A.f_check_arms A.d_check_arms
  m_check_arms : mg "check_arms" = some (.ref A.f_check_arms)
  F_check_many : Fun K "check_many" "check_many" s_check_many A.f_check_many A.d_check_many
  m_check_many : mg "check_many" = some (.ref A.f_check_many)
  F_check_place : Fun K "check_place" "check_place" s_check_place A.f_check_place A.d_check_place
  m_check_place : mg "check_place" = some (.ref A.f_check_place)
  F_check_few : Fun K "check_few" "check_few" s_check_few A.f_check_few A.d_check_few
  m_check_few : mg "check_few" = some (.ref A.f_check_few)
  F_row_of : Fun K "row_of" "row_of" s_row_of A.f_row_of A.d_row_of
  m_row_of : mg "row_of" = some (.ref A.f_row_of)
  F_t___init__ : FunD K "__init__" "Tree.__init__" (defArgs s_t___init__) (defBody s_t___init__) (defScope s_t___init__) [] [("arms", V.int 2)] A.f_t___init__ A.d_t___init__
  F_t_of : FunD K "of" "Tree.of" (defArgs s_t_of) (defBody s_t_of) (defScope s_t_of) [] [("arms", V.int 2)] A.f_t_of A.d_t_of
  F_t___len__ : Fun K "__len__" "Tree.__len__" s_t___len__ A.f_t___len__ A.d_t___len__
  D_t___len__ : Dn K A.C "__len__" A.f_t___len__
  F_t___iter__ : Fun K "__iter__" "Tree.__iter__" s_t___iter__ A.f_t___iter__ A.d_t___iter__
  D_t___iter__ : Dn K A.C "__iter__" A.f_t___iter__
  F_t___getitem__ : Fun K "__getitem__" "Tree.__getitem__" s_t___getitem__ A.f_t___getitem__ A.d_t___getitem__
  D_t___getitem__ : Dn K A.C "__getitem__" A.f_t___getitem__
  F_t_parent : Fun K "parent" "Tree.parent" s_t_parent A.f_t_parent A.d_t_parent
  M_t_parent : Meth K A.C "parent" A.f_t_parent
  F_t_way_to : Fun K "way_to" "Tree.way_to" s_t_way_to A.f_t_way_to A.d_t_way_to
  M_t_way_to : Meth K A.C "way_to" A.f_t_way_to
  F_faults : FunD K "faults" "faults" (defArgs s_faults) (defBody s_faults) (defScope s_faults) [] [("arms", V.int 2)] A.f_faults A.d_faults
  m_faults : mg "faults" = some (.ref A.f_faults)
  F_heap_of : Fun K "heap_of" "heap_of" s_heap_of A.f_heap_of A.d_heap_of
  m_heap_of : mg "heap_of" = some (.ref A.f_heap_of)
  F_next_keys : Fun K "next_keys" "next_keys" s_next_keys A.f_next_keys A.d_next_keys
  m_next_keys : mg "next_keys" = some (.ref A.f_next_keys)
  F_all_heaps : FunD K "all_heaps" "all_heaps" (defArgs s_all_heaps) (defBody s_all_heaps) (defScope s_all_heaps) [] [("arms", V.int 2)] A.f_all_heaps A.d_all_heaps
  m_all_heaps : mg "all_heaps" = some (.ref A.f_all_heaps)
  F_z___init__ : Fun K "__init__" "Sift.__init__" s_z___init__ A.f_z___init__ A.d_z___init__
  F_z___eq__ : Fun K "__eq__" "Sift.__eq__" s_z___eq__ A.f_z___eq__ A.d_z___eq__
  F_sift_up : FunD K "sift_up" "sift_up" (defArgs s_sift_up) (defBody s_sift_up) (defScope s_sift_up) [] [("arms", V.int 2)] A.f_sift_up A.d_sift_up
  m_sift_up : mg "sift_up" = some (.ref A.f_sift_up)
  F_sift_down : FunD K "sift_down" "sift_down" (defArgs s_sift_down) (defBody s_sift_down) (defScope s_sift_down) [] [("arms", V.int 2)] A.f_sift_down A.d_sift_down
  m_sift_down : mg "sift_down" = some (.ref A.f_sift_down)
  L_least_child : ∃ (oc : Value) (od : Option Addr) (kV doc pm : Value) (an : Option Addr) (ct : Value) (osl : Array (Option Value)), A.d_least_child = PySem.W.fnOf "least_child" "least_child" (defArgs s_least_child) (defBody s_least_child) (defScope s_least_child) .none kV doc pm an (.ref A.c_least_child) ct ∧ K.lookup A.f_least_child = some ⟨oc, od, .func A.d_least_child, osl⟩ ∧ PySem.W.codeIn K (.ref A.c_least_child) "least_child" = true
  F_least_child : Fun K "least_child" "least_child" s_least_child A.f_least_child A.d_least_child
  m_least_child : mg "least_child" = some (.ref A.f_least_child)
  F_take : FunD K "take" "take" (defArgs s_take) (defBody s_take) (defScope s_take) [] [("arms", V.int 2)] A.f_take A.d_take
  m_take : mg "take" = some (.ref A.f_take)
  F_take_by_hole : FunD K "take_by_hole" "take_by_hole" (defArgs s_take_by_hole) (defBody s_take_by_hole) (defScope s_take_by_hole) [] [("arms", V.int 2)] A.f_take_by_hole A.d_take_by_hole
  m_take_by_hole : mg "take_by_hole" = some (.ref A.f_take_by_hole)
  F_filled_heap_of : Fun K "filled_heap_of" "filled_heap_of" s_filled_heap_of A.f_filled_heap_of A.d_filled_heap_of
  m_filled_heap_of : mg "filled_heap_of" = some (.ref A.f_filled_heap_of)
  F_check_filled : Fun K "check_filled" "check_filled" s_check_filled A.f_check_filled A.d_check_filled
  m_check_filled : mg "check_filled" = some (.ref A.f_check_filled)
  F_looks_of : FunD K "looks_of" "looks_of" (defArgs s_looks_of) (defBody s_looks_of) (defScope s_looks_of) [] [("arms", V.int 2)] A.f_looks_of A.d_looks_of
  m_looks_of : mg "looks_of" = some (.ref A.f_looks_of)
  F_looks_over : FunD K "looks_over" "looks_over" (defArgs s_looks_over) (defBody s_looks_over) (defScope s_looks_over) [] [("arms", V.int 2)] A.f_looks_over A.d_looks_over
  m_looks_over : mg "looks_over" = some (.ref A.f_looks_over)
  F__law_number : Fun K "_law_number" "_law_number" s__law_number A.f__law_number A.d__law_number
  m__law_number : mg "_law_number" = some (.ref A.f__law_number)
  F__law_take : Fun K "_law_take" "_law_take" s__law_take A.f__law_take A.d__law_take
  m__law_take : mg "_law_take" = some (.ref A.f__law_take)
  F__law_pick : Fun K "_law_pick" "_law_pick" s__law_pick A.f__law_pick A.d__law_pick
  m__law_pick : mg "_law_pick" = some (.ref A.f__law_pick)
  F__law_parent : Fun K "_law_parent" "_law_parent" s__law_parent A.f__law_parent A.d__law_parent
  m__law_parent : mg "_law_parent" = some (.ref A.f__law_parent)
  F__law_children : Fun K "_law_children" "_law_children" s__law_children A.f__law_children A.d__law_children
  m__law_children : mg "_law_children" = some (.ref A.f__law_children)
  F__law_way : Fun K "_law_way" "_law_way" s__law_way A.f__law_way A.d__law_way
  m__law_way : mg "_law_way" = some (.ref A.f__law_way)
  F__law_arms : Fun K "_law_arms" "_law_arms" s__law_arms A.f__law_arms A.d__law_arms
  m__law_arms : mg "_law_arms" = some (.ref A.f__law_arms)
  F__law_keys : Fun K "_law_keys" "_law_keys" s__law_keys A.f__law_keys A.d__law_keys
  m__law_keys : mg "_law_keys" = some (.ref A.f__law_keys)
  F__law_is_heap : Fun K "_law_is_heap" "_law_is_heap" s__law_is_heap A.f__law_is_heap A.d__law_is_heap
  m__law_is_heap : mg "_law_is_heap" = some (.ref A.f__law_is_heap)
  F__law_lists : Fun K "_law_lists" "_law_lists" s__law_lists A.f__law_lists A.d__law_lists
  m__law_lists : mg "_law_lists" = some (.ref A.f__law_lists)
  F__law_heaps : Fun K "_law_heaps" "_law_heaps" s__law_heaps A.f__law_heaps A.d__law_heaps
  m__law_heaps : mg "_law_heaps" = some (.ref A.f__law_heaps)
  F__law_heap : Fun K "_law_heap" "_law_heap" s__law_heap A.f__law_heap A.d__law_heap
  m__law_heap : mg "_law_heap" = some (.ref A.f__law_heap)
  F__law_up : Fun K "_law_up" "_law_up" s__law_up A.f__law_up A.d__law_up
  m__law_up : mg "_law_up" = some (.ref A.f__law_up)
  F__law_down : Fun K "_law_down" "_law_down" s__law_down A.f__law_down A.d__law_down
  m__law_down : mg "_law_down" = some (.ref A.f__law_down)
  F__law_hole : Fun K "_law_hole" "_law_hole" s__law_hole A.f__law_hole A.d__law_hole
  m__law_hole : mg "_law_hole" = some (.ref A.f__law_hole)
  F__law_out : Fun K "_law_out" "_law_out" s__law_out A.f__law_out A.d__law_out
  m__law_out : mg "_law_out" = some (.ref A.f__law_out)
  F__law_ways_to : Fun K "_law_ways_to" "_law_ways_to" s__law_ways_to A.f__law_ways_to A.d__law_ways_to
  m__law_ways_to : mg "_law_ways_to" = some (.ref A.f__law_ways_to)
  F_law : Fun K "law" "law" s_law A.f_law A.d_law
  m_law : mg "law" = some (.ref A.f_law)
  c_MOST_ARMS : mg "MOST_ARMS" = some (.int 4 0) ∨ ∃ t, mg "MOST_ARMS" = some (.int 4 t)
  c_MOST_PLACES : mg "MOST_PLACES" = some (.int 12 0) ∨ ∃ t, mg "MOST_PLACES" = some (.int 12 t)
  c_GREATEST_KEY : mg "GREATEST_KEY" = some (.int 1000000000 0) ∨ ∃ t, mg "GREATEST_KEY" = some (.int 1000000000 t)
  c_MOST_KEYS : mg "MOST_KEYS" = some (.int 8 0) ∨ ∃ t, mg "MOST_KEYS" = some (.int 8 t)
  c_MOST_COUNTED : mg "MOST_COUNTED" = some (.int 8 0) ∨ ∃ t, mg "MOST_COUNTED" = some (.int 8 t)
  g_isinstance : mg "isinstance" = none
  g_int : mg "int" = none
  g_bool : mg "bool" = none
  g_len : mg "len" = none
  g_tuple : mg "tuple" = none
  g_list : mg "list" = none
  g_range : mg "range" = none
  g_enumerate : mg "enumerate" = none
  g_reversed : mg "reversed" = none
  g_min : mg "min" = none
  g_sum : mg "sum" = none
  g_iter : mg "iter" = none
  g_any : mg "any" = none
  g_sorted : mg "sorted" = none
  g_set : mg "set" = none
  cT : Cls K A.C
  nMany : NoAttr K A.C "many"
  nArms : NoAttr K A.C "arms"
  nPl : NoAttr K A.C "_places"
  mC : mg "Tree" = some (.ref A.C)
  mkC : Mk K A.C A.f_t___init__
  cr : ClX.CRead K A.C (.type "type")
  cof : ClX.CMet K A.C (.type "type") "of" A.po A.f_t_of
  cTS : Cls K A.CS
  nRow : NoAttr K A.CS "row"
  nWay : NoAttr K A.CS "way"
  nLooks : NoAttr K A.CS "looks"
  mCS : mg "Sift" = some (.ref A.CS)
  mkCS : Mk K A.CS A.f_z___init__
  eqcS : EqC K A.CS A.f_z___eq__
  kaS : PySem.W.findIn K (.ref A.CS) "__class__" = some (some (.builtin "object.__class__"))
  knS : PySem.W.specialIn K (.builtin "object.__class__") "__get__" = some (some (.builtin "getset_descriptor.__get__"))
  ktkS : PySem.W.takesIn K (.builtin "object.__class__") = some true
  kmS : PySem.W.mroIn K A.CS (.type "object") = some true
  kiS_int : PySem.W.kitOne K (.type "int") (.ref A.CS) = some false
  kiS_tuple : PySem.W.kitOne K (.type "tuple") (.ref A.CS) = some false
def TT (A : Ad) : List (Addr × Str) := [(A.P_least_child, ("least_child" : Str) ++ ".<locals>." ++ "<lambda>")]
section
variable {P : Program} {w : World} {K : PySem.W.Frag} {mg : Str → Option Value} {base : Heap} {A : Ad}
theorem cst {x : Str} {n : Int} (h : mg x = some (.int n 0) ∨ ∃ t, mg x = some (.int n t)) : ∃ t, mg x = some (.int n t) := h.elim (fun e => ⟨0, e⟩) id

/-- True just for ints -/
def spIs (K : PySem.W.Frag) : Sp := fun vs H Q _ => ∃ x : V, vs = [x] ∧
  ((∃ i, x = .int i ∧ Q (.bl true) H) ∨ (∃ n b1 b2, TyX K H x (.type n) ∧ kitB n "int" = some b1 ∧ kitB n "bool" = some b2 ∧ (b1 && !b2) = false ∧ Q (.bl false) H))
theorem ok_is (T : Tx K mg A) : FnOk P w K mg base CX0 1 A.f_is_integer A.d_is_integer ["thing"] (spIs K) := by
  refine T.F_is_integer.ok sc_is_integer (fun vs H Q E h => ?_) (fun cdv B outer s H vs Q E hr h => ?_)
  · obtain ⟨x, rfl, _⟩ := h
    rfl
  · obtain ⟨x, rfl, h⟩ := h
    refine ⟨_, pss_one (ps_ret (pe_and (pe_callB call_isi (by rfl) T.g_isinstance (by decide +kernel) (pa_cons (pv 0) (pa_cons (pe_bltn (v := .ty "int") (by rfl) T.g_int (by decide +kernel) rfl) pa_nil)))
      (pe_one (pe_not (pe_callB call_isi (by rfl) T.g_isinstance (by decide +kernel) (pa_cons (pv 0) (pa_cons (pe_bltn (v := .ty "bool") (by rfl) T.g_bool (by decide +kernel) rfl) pa_nil))))))), ?_⟩
    rcases h with ⟨i, rfl, q⟩ | ⟨n, b1, b2, ty, k1, k2, hb, q⟩
    · refine ⟨_, rfl, _, _, .type "int", .type "int", true, rfl, .ty "int", .base (.int i), kit_ty (by decide +kernel), true, rfl, iteT ?_⟩
      exact ⟨_, rfl, _, _, .type "int", .type "bool", false, rfl, .ty "bool", .base (.int i), kit_ty (by decide +kernel), false, rfl, q⟩
    · refine ⟨_, rfl, _, _, .type n, .type "int", b1, rfl, .ty "int", ty, kit_ty k1, b1, rfl, ?_⟩
      cases b1 with
      | false => exact iteF q
      | true =>
        cases b2 with
        | false => cases hb
        | true => exact iteT ⟨_, rfl, _, _, .type n, .type "bool", true, rfl, .ty "bool", ty, kit_ty k2, true, rfl, q⟩
theorem b_is (T : Tx K mg A) : L2.Binds K A.d_is_integer ["thing"] [] := T.F_is_integer.binds fun _ _ _ _ _ _ us hl => match us, hl with | [_], _ => rfl
/-- True just for ints within; other things by their class -/
def spII (K : PySem.W.Frag) : Sp := fun vs H Q _ => ∃ (x : V) (a b : Int), vs = [x, .int a, .int b] ∧
  ((∃ i, x = .int i ∧ Q (.bl (decide (a ≤ i ∧ i ≤ b))) H) ∨ (∃ n b1 b2, TyX K H x (.type n) ∧ kitB n "int" = some b1 ∧ kitB n "bool" = some b2 ∧ (b1 && !b2) = false ∧ Q (.bl false) H))
theorem ok_ii (T : Tx K mg A) : FnOk P w K mg base CX0 2 A.f_is_integer_from A.d_is_integer_from ["thing", "least", "greatest"] (spII K) := by
  refine T.F_is_integer_from.ok sc_is_integer_from (fun vs H Q E h => ?_) (fun cdv B outer s H vs Q E hr h => ?_)
  · obtain ⟨x, a, b, rfl, _⟩ := h
    rfl
  · obtain ⟨x, a, b, rfl, h⟩ := h
    refine ⟨_, pss_one (ps_ret (pe_and (pe_call (ok_is T) hr (by rfl) T.m_is_integer T.F_is_integer.kp (b_is T) .nil pass0 (pa_cons (pv 0) pa_nil))
        (pe_one (pe_chain op_le op_le (pv 1) (pv 0) (pv 2))))), ?_⟩
    rcases h with ⟨i, rfl, q⟩ | h
    · refine ⟨_, rfl, _, rfl, .inl ⟨i, rfl, true, rfl, iteT ?_⟩⟩
      refine ⟨_, rfl, _, rfl, _, _, rfl, rfl, _, rfl, ?_⟩
      by_cases h1 : a ≤ i
      · rw [decide_eq_true h1]
        refine iteT ⟨_, rfl, _, _, rfl, rfl, ?_⟩
        have e : decide (a ≤ i ∧ i ≤ b) = decide (i ≤ b) := by simp [h1]
        rw [e] at q
        exact q
      · rw [decide_eq_false h1]
        have e : decide (a ≤ i ∧ i ≤ b) = false := by simp [h1]
        rw [e] at q
        exact iteF q
    · obtain ⟨n, b1, b2, ty, k1, k2, hb, q⟩ := h
      exact ⟨_, rfl, _, rfl, .inr ⟨n, b1, b2, ty, k1, k2, hb, false, rfl, iteF q⟩⟩
theorem b_ii (T : Tx K mg A) : L2.Binds K A.d_is_integer_from ["thing", "least", "greatest"] [] := T.F_is_integer_from.binds fun _ _ _ _ _ _ us hl => match us, hl with | [_, _, _], _ => rfl

/-- is_key of an int -/
def spKey : Sp := fun vs H Q _ => ∃ i : Int, vs = [.int i] ∧ Q (.bl (decide (-1000000000 ≤ i ∧ i ≤ 1000000000))) H
theorem ok_key (T : Tx K mg A) : FnOk P w K mg base CX0 3 A.f_is_key A.d_is_key ["thing"] spKey := by
  refine T.F_is_key.ok sc_is_key (fun vs H Q E h => ?_) (fun cdv B outer s H vs Q E hr h => ?_)
  · obtain ⟨i, rfl, _⟩ := h
    rfl
  · obtain ⟨i, rfl, q⟩ := h
    obtain ⟨t, hg⟩ := cst T.c_GREATEST_KEY
    refine ⟨_, pss_one (ps_ret (pe_call (ok_ii T) hr (by rfl) T.m_is_integer_from T.F_is_integer_from.kp (b_ii T) .nil pass0
      (pa_cons (pv 0) (pa_cons (pe_un un_neg (pe_glob (by rfl) hg (relI _ _))) (pa_cons (pe_glob (by rfl) hg (relI _ _)) pa_nil))))), ?_⟩
    exact ⟨_, rfl, _, rfl, _, _, _, rfl, .inl ⟨i, rfl, q⟩⟩
theorem b_key (T : Tx K mg A) : L2.Binds K A.d_is_key ["thing"] [] := T.F_is_key.binds fun _ _ _ _ _ _ us hl => match us, hl with | [_], _ => rfl
def spCa : Sp := fun vs H Q _ => ∃ i : Int, vs = [.int i] ∧ (1 ≤ i ∧ i ≤ 4) ∧ Q .non H
theorem ok_ca (T : Tx K mg A) : FnOk P w K mg base CX0 3 A.f_check_arms A.d_check_arms ["arms"] spCa := by
  refine T.F_check_arms.ok sc_check_arms (fun vs H Q E h => ?_) (fun cdv B outer s H vs Q E hr h => ?_)
  · obtain ⟨i, rfl, _⟩ := h
    rfl
  · obtain ⟨i, rfl, hi, q⟩ := h
    obtain ⟨t, hg⟩ := cst T.c_MOST_ARMS
    refine ⟨_, pss_one (ps_if (pt_not (pt_val (pe_call (ok_ii T) hr (by rfl) T.m_is_integer_from T.F_is_integer_from.kp (b_ii T) .nil pass0
      (pa_cons (pv 0) (pa_cons pe_int (pa_cons (pe_glob (by rfl) hg (relI _ _)) pa_nil)))))) (pss_one ps_never) pss_nil), ?_⟩
    refine ⟨_, rfl, _, _, _, rfl, .inl ⟨i, rfl, _, rfl, ?_⟩⟩
    rw [decide_eq_true hi]
    exact iteF q
theorem b_ca (T : Tx K mg A) : L2.Binds K A.d_check_arms ["arms"] [] := T.F_check_arms.binds fun _ _ _ _ _ _ us hl => match us, hl with | [_], _ => rfl
def spCm : Sp := fun vs H Q _ => ∃ i : Int, vs = [.int i] ∧ (0 ≤ i ∧ i ≤ 12) ∧ Q .non H
theorem ok_cm (T : Tx K mg A) : FnOk P w K mg base CX0 3 A.f_check_many A.d_check_many ["many"] spCm := by
  refine T.F_check_many.ok sc_check_many (fun vs H Q E h => ?_) (fun cdv B outer s H vs Q E hr h => ?_)
  · obtain ⟨i, rfl, _⟩ := h
    rfl
  · obtain ⟨i, rfl, hi, q⟩ := h
    obtain ⟨t, hg⟩ := cst T.c_MOST_PLACES
    refine ⟨_, pss_one (ps_if (pt_not (pt_val (pe_call (ok_ii T) hr (by rfl) T.m_is_integer_from T.F_is_integer_from.kp (b_ii T) .nil pass0
      (pa_cons (pv 0) (pa_cons pe_int (pa_cons (pe_glob (by rfl) hg (relI _ _)) pa_nil)))))) (pss_one ps_never) pss_nil), ?_⟩
    refine ⟨_, rfl, _, _, _, rfl, .inl ⟨i, rfl, _, rfl, ?_⟩⟩
    rw [decide_eq_true hi]
    exact iteF q
theorem b_cm (T : Tx K mg A) : L2.Binds K A.d_check_many ["many"] [] := T.F_check_many.binds fun _ _ _ _ _ _ us hl => match us, hl with | [_], _ => rfl
def spCp : Sp := fun vs H Q _ => ∃ i n : Int, vs = [.int i, .int n] ∧ (0 ≤ i ∧ i < n) ∧ Q .non H
theorem ok_cp (T : Tx K mg A) : FnOk P w K mg base CX0 3 A.f_check_place A.d_check_place ["place", "many"] spCp := by
  refine T.F_check_place.ok sc_check_place (fun vs H Q E h => ?_) (fun cdv B outer s H vs Q E hr h => ?_)
  · obtain ⟨i, n, rfl, _⟩ := h
    rfl
  · obtain ⟨i, n, rfl, hi, q⟩ := h
    refine ⟨_, pss_one (ps_if (pt_not (pt_val (pe_call (ok_ii T) hr (by rfl) T.m_is_integer_from T.F_is_integer_from.kp (b_ii T) .nil pass0
      (pa_cons (pv 0) (pa_cons pe_int (pa_cons (pe_op op_sub (pv 1) pe_int) pa_nil)))))) (pss_one ps_never) pss_nil), ?_⟩
    refine ⟨_, rfl, _, rfl, _, _, rfl, rfl, _, _, _, rfl, .inl ⟨i, rfl, _, rfl, ?_⟩⟩
    rw [decide_eq_true (show 0 ≤ i ∧ i ≤ n - 1 by omega)]
    exact iteF q
theorem b_cp (T : Tx K mg A) : L2.Binds K A.d_check_place ["place", "many"] [] := T.F_check_place.binds fun _ _ _ _ _ _ us hl => match us, hl with | [_, _], _ => rfl
/-- a list or a tuple -/
def Sq (H : Hp) (a : Addr) (xs : List V) : Prop := H a = some (.lst xs) ∨ H a = some (.tup xs)
theorem Sq.same {H H' : Hp} {a : Addr} {xs : List V} (h : Sq H a xs) (s : Same H H') : Sq H' a xs := h.elim (fun e => .inl (s _ _ e)) fun e => .inr (s _ _ e)
theorem Sq.len {K : PySem.W.Frag} {H : Hp} {a : Addr} {xs : List V} (h : Sq H a xs) : SqL K H a xs ∨ SqT K H a xs := h.elim (fun e => .inl (SqL.of e)) fun e => .inr (SqT.of e)
/-- keys go in, a tuple of them comes out -/
def spRow (K : PySem.W.Frag) : Sp := fun vs H Q _ => ∃ (a : Addr) (ns : List Int), vs = [.ref a] ∧ Sq H a (ns.map V.int) ∧ ns.length ≤ 12 ∧ (∀ n ∈ ns, -1000000000 ≤ n ∧ n ≤ 1000000000) ∧
  ∀ H' p, Same H H' → H' p = some (.tup (ns.map V.int)) → Q (.ref p) H'
theorem ok_row (T : Tx K mg A) : FnOk P w K mg base CX0 4 A.f_row_of A.d_row_of ["row"] (spRow K) := by
  refine T.F_row_of.ok sc_row_of (fun vs H Q E h => ?_) (fun cdv B outer s H vs Q E hr h => ?_)
  · obtain ⟨a, ns, rfl, _⟩ := h
    rfl
  · obtain ⟨a, ns, rfl, ha, hl, hk, q⟩ := h
    obtain ⟨t, hg⟩ := cst T.c_MOST_PLACES
    refine ⟨_, pss_cons (ps_if (PW.pt (pw_or (pt_not (pt_val (pe_callB call_isiT (by rfl) T.g_isinstance (by decide +kernel) (pa_cons (pv 0) (pa_cons (pe_tup (pa_cons (pe_bltn (v := .ty "list") (by rfl) T.g_list (by decide +kernel) rfl) (pa_cons (pe_bltn (v := .ty "tuple") (by rfl) T.g_tuple (by decide +kernel) rfl) pa_nil))) pa_nil)))))
        (pw_or1 (pt_cmpR op_gt (pe_callB call_len_seq (by rfl) T.g_len PySem.boot_len (pa_cons (pv 0) pa_nil)) (pe_glob (by rfl) hg (relI _ _)) (nomark _))))) (pss_one ps_never) pss_nil)
      (C8.pss_cut (ps_for PassesOwn.never rfl (pi_enS (by rfl) T.g_enumerate (pa_cons (pv 0) pa_nil)) (pg_tup rfl (pgs_cons (pg_name (i := 1) sc_row_of.nd rfl (Or.inl rfl)) (pgs_cons (pg_name (i := 2) sc_row_of.nd rfl (Or.inl rfl)) pgs_nil)))
        (pss_one (ps_if (pt_not (pt_val (pe_call (ok_key T) hr (by rfl) T.m_is_key T.F_is_key.kp (b_key T) .nil pass0 (pa_cons (pv 2) pa_nil)))) (pss_one ps_never) pss_nil)))
      (pss_one (ps_ret (pe_callTy call_tuple_of (by rfl) T.g_tuple (by decide +kernel) (pa_cons (pv 0) pa_nil))))), ?_⟩
    refine ⟨_, rfl, by show 2 ≤ sizeLine; decide, fun tp htp => ?_⟩
    have ha1 : Sq (upd H tp (.tup [.ty "list", .ty "tuple"])) a (ns.map V.int) := ha.same (Same.up htp)
    have isi : ∃ c b1, TyX K (upd H tp (.tup [.ty "list", .ty "tuple"])) (.ref a) (.type c) ∧ PySem.W.kitOne K (.type c) (.type "list") = some b1 ∧ (b1 = false → PySem.W.kitOne K (.type c) (.type "tuple") = some true) := by
      rcases ha1 with h | h
      · exact ⟨"list", true, .base (.lst h), kit_ty (by decide +kernel), fun z => by cases z⟩
      · exact ⟨"tuple", false, .base (.tup h), kit_ty (by decide +kernel), fun _ => kit_ty (by decide +kernel)⟩
    obtain ⟨c, b1, ty, k1, k2⟩ := isi
    refine ⟨_, tp, _, .type c, [.type "list", .type "tuple"], true, rfl, upd_same, .cons (.ty _) (.cons (.ty _) .nil), ty, kitAny_cons k1 (fun z => kitAny_cons (k2 z) (fun z => by cases z) (fun _ => rfl)) (fun _ => rfl), true, rfl, ?_⟩
    refine iteF ⟨_, rfl, a, _, rfl, ha1.len, _, _, rfl, rfl, _, rfl, ite2 (fun z => ?_) (fun _ => ?_)⟩
    · exfalso
      rw [List.length_map] at z
      have := of_decide_eq_true z
      omega
    refine ⟨fun σ H' => ∃ z y, σ = [some (.ref a), z, y] ∧ Same H H', ?_, ?_⟩
    · rcases ha with ha | ha
      · refine ⟨_, rfl, a, _, rfl, .inl ⟨SqL.of ((Same.up htp) _ _ ha), for_it (walk_enum (xs := ns.map V.int)) (fun i σ H' => ∃ z y, σ = [some (.ref a), z, y] ∧ Same H H') ⟨none, none, rfl, Same.up htp⟩ (fun i σ H' _ ⟨_, _, _, s⟩ => SqL.of (s _ _ ha)) ?_ ?_⟩⟩
        · rintro i v σ H2 H3 hi ⟨z, y, rfl, s⟩ ⟨T', x, x2, rfl, hT, rfl, e1, e2⟩
          obtain ⟨hi', rfl⟩ := ints_at e2
          cases e1
          refine ⟨_, _, rfl, SqT.of upd_same, rfl, _, _, rfl, _, _, rfl, rfl, ?_⟩
          refine ⟨_, rfl, _, rfl, _, rfl, ?_⟩
          rw [decide_eq_true (hk _ (List.getElem_mem hi'))]
          exact iteF ⟨_, _, rfl, s.trans (Same.up hT)⟩
        · rintro σ H2 ⟨z, y, rfl, s⟩
          exact ⟨_, _, rfl, s⟩
      · refine ⟨_, rfl, a, _, rfl, .inr ⟨SqT.of ((Same.up htp) _ _ ha), for_it (walk_enumT (xs := ns.map V.int)) (fun i σ H' => ∃ z y, σ = [some (.ref a), z, y] ∧ Same H H') ⟨none, none, rfl, Same.up htp⟩ (fun i σ H' _ ⟨_, _, _, s⟩ => SqT.of (s _ _ ha)) ?_ ?_⟩⟩
        · rintro i v σ H2 H3 hi ⟨z, y, rfl, s⟩ ⟨T', x, x2, rfl, hT, rfl, e1, e2⟩
          obtain ⟨hi', rfl⟩ := ints_at e2
          cases e1
          refine ⟨_, _, rfl, SqT.of upd_same, rfl, _, _, rfl, _, _, rfl, rfl, ?_⟩
          refine ⟨_, rfl, _, rfl, _, rfl, ?_⟩
          rw [decide_eq_true (hk _ (List.getElem_mem hi'))]
          exact iteF ⟨_, _, rfl, s.trans (Same.up hT)⟩
        · rintro σ H2 ⟨z, y, rfl, s⟩
          exact ⟨_, _, rfl, s⟩
    · rintro σ H2 ⟨z, y, rfl, s⟩
      rcases ha with ha | ha
      · exact ⟨_, rfl, a, _, rfl, .inl ⟨SqL.of (s _ _ ha), fun p hp => q _ _ (s.trans (Same.up hp)) upd_same⟩⟩
      · exact ⟨_, rfl, a, _, rfl, .inr ⟨SqT.of (s _ _ ha), q _ _ s (s _ _ ha)⟩⟩
theorem b_row (T : Tx K mg A) : L2.Binds K A.d_row_of ["row"] [] := T.F_row_of.binds fun _ _ _ _ _ _ us hl => match us, hl with | [_], _ => rfl

end

end Tw

set_option Elab.async false
set_option linter.all false
set_option maxRecDepth 100000
set_option maxHeartbeats 2000000
namespace Tw
open PySem PySem.Spec PyProof.Rows L2
section
variable {P : Program} {w : World} {K : PySem.W.Frag} {mg : Str → Option Value} {base : Heap} {A : Ad}
/-! the tree -/
/-- the places of a tree -/
def pl (n : Nat) : List V := (List.range n).map fun i => V.int (i : Nat)
theorem rg_pl (n : Nat) : rgV 0 (n : Int) = pl n := by
  unfold rgV pl
  rw [show ((n : Int) - 0).toNat = n by omega]
  exact congrArg (fun f => (List.range n).map f) (funext fun i => by rw [Int.zero_add])
theorem n1 : ¬ (("many" : Str) = "arms") := by decide +kernel
theorem n2 : ¬ (("many" : Str) = "_places") := by decide +kernel
theorem n3 : ¬ (("arms" : Str) = "_places") := by decide +kernel
/-- its attributes -/
def tf (n w t : Nat) : List (Str × V) := putF "_places" (.ref t) (putF "arms" (.int w) (putF "many" (.int n) []))
theorem tf_eq (n w t : Nat) : tf n w t = ([("many", V.int n), ("arms", V.int w), ("_places", V.ref t)] : List (Str × V)) := by
  unfold tf
  simp only [putF, n1, n2, n3, if_false]
theorem tf_many (n w t : Nat) : (tf n w t).lookup ("many" : Str) = some (.int n) := by
  unfold tf
  rw [lookup_putF, if_neg n2, lookup_putF, if_neg n1, lookup_putF, if_pos rfl]
theorem tf_arms (n w t : Nat) : (tf n w t).lookup ("arms" : Str) = some (.int w) := by
  unfold tf
  rw [lookup_putF, if_neg n3, lookup_putF, if_pos rfl]
theorem tf_pl (n w t : Nat) : (tf n w t).lookup ("_places" : Str) = some (.ref t) := by
  unfold tf
  rw [lookup_putF, if_pos rfl]
theorem tf_no (n w t : Nat) {m : Str} (h1 : ¬ m = "many") (h2 : ¬ m = "arms") (h3 : ¬ m = "_places") : (tf n w t).lookup m = none := by
  unfold tf
  rw [lookup_putF, if_neg h3, lookup_putF, if_neg h2, lookup_putF, if_neg h1]
  rfl
/-- a tree of n places and w arms stands at p -/
structure TreeAt (C : Addr) (H : Hp) (p n w : Nat) : Prop where
  ob : ∃ dx t, H p = some (.ins C dx (tf n w t)) ∧ H t = some (.tup (pl n))
  hn : n ≤ 12
  hw : 1 ≤ w ∧ w ≤ 4
theorem TreeAt.same {C : Addr} {H H' : Hp} {p n w : Nat} (h : TreeAt C H p n w) (s : Same H H') : TreeAt C H' p n w :=
  ⟨let ⟨dx, t, a, b⟩ := h.ob; ⟨dx, t, s _ _ a, s _ _ b⟩, h.hn, h.hw⟩

def spInit (C : Addr) : Sp := fun vs H Q _ => ∃ (p dx n w : Nat), vs = [.ref p, .int n, .int w] ∧ n ≤ 12 ∧ (1 ≤ w ∧ w ≤ 4) ∧ H p = some (.ins C dx []) ∧
  ∀ (H' : Hp), (∀ b o, H b = some o → b ≠ p → H' b = some o) → TreeAt C H' p n w → Q .non H'
theorem ok_init (T : Tx K mg A) : FnOk P w K mg base CX0 4 A.f_t___init__ A.d_t___init__ ["self", "many", "arms"] (spInit A.C) := by
  refine T.F_t___init__.ok sc_t___init__ (fun vs H Q E h => ?_) (fun cdv B outer s H vs Q E hr h => ?_)
  · obtain ⟨p, dx, n, w, rfl, _⟩ := h
    rfl
  · obtain ⟨p, dx, n, w, rfl, hn, hw, hp, q⟩ := h
    refine ⟨_, PSs.nox (pss_cons (ps_expr (pe_call (ok_ca T) hr (by rfl) T.m_check_arms T.F_check_arms.kp (b_ca T) .nil pass0 (pa_cons (pv 2) pa_nil)))
      (pss_cons (ps_expr (pe_call (ok_cm T) hr (by rfl) T.m_check_many T.F_check_many.kp (b_cm T) .nil pass0 (pa_cons (pv 1) pa_nil)))
      (pss_cons (ps_fld (pv 0) (pv 1) rfl) (pss_cons (ps_fld (pv 0) (pv 2) rfl)
      (pss_one (ps_fld (pv 0) (pe_tupRg rfl (by rfl) T.g_tuple (prg_1 (by rfl) T.g_range (pv 1))) rfl)))))), ?_⟩
    refine ⟨_, rfl, _, rfl, ⟨by omega, by omega⟩, _, rfl, _, rfl, ⟨by omega, by omega⟩, ?_⟩
    refine ⟨_, rfl, _, rfl, p, A.C, dx, _, rfl, hp, T.cT, T.nMany, (by show 0 < 1000; decide), ?_⟩
    refine ⟨_, rfl, _, rfl, p, A.C, dx, _, rfl, upd_same, T.cT, T.nArms, (by show 1 < 1000; decide), ?_⟩
    refine ⟨_, rfl, _, rfl, RgOk.of_le (by omega) (by omega) (by omega) (by omega), fun t ht => ?_⟩
    have npt : p ≠ t := fun z => by
      rw [z, upd_same] at ht
      cases ht
    refine ⟨_, rfl, p, A.C, dx, _, rfl, Eq.trans (upd_ne npt) upd_same, T.cT, T.nPl, (by simp only [putF, n1, if_false]; show 2 < 1000; decide), ?_⟩
    refine q _ (fun b o e hb => ?_) ⟨⟨dx, t, upd_same, ?_⟩, hn, hw⟩
    · have nbt : b ≠ t := ne_of_none (by rw [upd_ne hb, upd_ne hb]; exact e) ht
      rw [upd_ne hb, upd_ne nbt, upd_ne hb, upd_ne hb]
      exact e
    · rw [upd_ne npt.symm, upd_same, rg_pl]

theorem kb_init (T : Tx K mg A) : ∃ mv : List Value, KBn K A.d_t___init__ ["self", "many", "arms"] 2 ["arms"] (fun us ws => us ++ (mv ++ ws)) (fun vs zs => vs ++ zs) := by
  obtain ⟨mv, h⟩ := T.F_t___init__.kbinds0 (ps := ["self", "many", "arms"]) 2 ["arms"] [] (fun us mv ws => us ++ (mv ++ ws)) (by simp) (by simp) (fun r1 r2 r3 => r1.append (r2.append r3))
    (fun D doc pm an cdv ct us mv ws h1 h2 h3 => by
      match us, mv, ws, h1, h2, h3 with
      | [a, b], [], [c], _, _, _ => rfl)
  exact ⟨mv, h⟩
theorem bd_init (T : Tx K mg A) : ∃ ds, Vals [V.int 2] ds ∧ L2.Binds K A.d_t___init__ ["self", "many", "arms"] ds := by
  refine T.F_t___init__.binds0 2 (by simp) rfl (fun D doc pm an cdv ct us ks h1 h2 => ?_)
  match us, ks, h1, h2 with
  | [a, b], [c], _, _ => exact ⟨_, _, _, _, _, _, rfl, rfl, rfl⟩
def spOf (K : PySem.W.Frag) (C : Addr) : Sp := fun vs H Q _ => ∃ (a w : Nat) (ns : List Int), vs = [.ref C, .ref a, .int w] ∧ (1 ≤ w ∧ w ≤ 4) ∧ Sq H a (ns.map V.int) ∧ ns.length ≤ 12 ∧ (∀ n ∈ ns, -1000000000 ≤ n ∧ n ≤ 1000000000) ∧
  ∀ (H' : Hp) p, Same H H' → H p = none → TreeAt C H' p ns.length w → Q (.ref p) H'
theorem ok_of (T : Tx K mg A) : FnOk P w K mg base CX0 6 A.f_t_of A.d_t_of ["cls", "row", "arms"] (spOf K A.C) := by
  obtain ⟨mv, kb⟩ := kb_init T
  refine T.F_t_of.ok sc_t_of (fun vs H Q E h => ?_) (fun cdv B outer s H vs Q E hr h => ?_)
  · obtain ⟨a, w, ns, rfl, _⟩ := h
    rfl
  · obtain ⟨a, w, ns, rfl, hw, ha, hl, hk, q⟩ := h
    refine ⟨_, PSs.nox (pss_cons (ps_expr (pe_call (ok_ca T) (hr.mono (by decide)) (by rfl) T.m_check_arms T.F_check_arms.kp (b_ca T) .nil pass0 (pa_cons (pv 2) pa_nil)))
      (pss_one (ps_ret (pe_makeLK (i := 0) T.mkC (ok_init T) hr kb pass0 (pa_cons (pe_callB call_len_seq (by rfl) T.g_len PySem.boot_len (pa_cons (pe_call (ok_row T) (hr.mono (by decide)) (by rfl) T.m_row_of T.F_row_of.kp (b_row T) .nil pass0 (pa_cons (pv 1) pa_nil)) pa_nil)) pa_nil)
        (pk_cons (pv 2) pk_nil) rfl (Or.inl rfl))))), ?_⟩
    refine ⟨_, rfl, _, rfl, ⟨by omega, by omega⟩, rfl, _, rfl, a, ns, rfl, ha, hl, hk, fun H1 p s1 hp => ?_⟩
    refine ⟨p, _, rfl, .inr (SqT.of hp), _, rfl, rfl, rfl, fun x dx nx ndx nex => ?_⟩
    refine ⟨x, dx, ns.length, w, by rw [List.length_map]; rfl, hl, hw, upd_same, fun H2 k2 t2 => ⟨rfl, q H2 x (fun b o e => k2 b o ?_ (ne_of_none (s1 _ _ e) nx)) (s1.free nx) t2⟩⟩
    rw [upd_ne (ne_of_none (s1 _ _ e) nx), upd_ne (ne_of_none (s1 _ _ e) ndx)]
    exact s1 _ _ e


theorem b_len (T : Tx K mg A) : L2.Binds K A.d_t___len__ ["self"] [] := T.F_t___len__.binds fun _ _ _ _ _ _ us hl => match us, hl with | [_], _ => rfl
theorem b_iter (T : Tx K mg A) : L2.Binds K A.d_t___iter__ ["self"] [] := T.F_t___iter__.binds fun _ _ _ _ _ _ us hl => match us, hl with | [_], _ => rfl
theorem b_gi (T : Tx K mg A) : L2.Binds K A.d_t___getitem__ ["self", "place"] [] := T.F_t___getitem__.binds fun _ _ _ _ _ _ us hl => match us, hl with | [_, _], _ => rfl
theorem b_par (T : Tx K mg A) : L2.Binds K A.d_t_parent ["self", "place"] [] := T.F_t_parent.binds fun _ _ _ _ _ _ us hl => match us, hl with | [_, _], _ => rfl
theorem b_way (T : Tx K mg A) : L2.Binds K A.d_t_way_to ["self", "place"] [] := T.F_t_way_to.binds fun _ _ _ _ _ _ us hl => match us, hl with | [_, _], _ => rfl
theorem pl_len (n : Nat) : (pl n).length = n := by unfold pl; rw [List.length_map, List.length_range]
def spLen (C : Addr) : Sp := fun vs H Q _ => ∃ (p n w : Nat), vs = [.ref p] ∧ TreeAt C H p n w ∧ Q (.int n) H
theorem ok_len (T : Tx K mg A) : FnOk P w K mg base CX0 2 A.f_t___len__ A.d_t___len__ ["self"] (spLen A.C) := by
  refine T.F_t___len__.ok sc_t___len__ (fun vs H Q E h => ?_) (fun cdv B outer s H vs Q E hr h => ?_)
  · obtain ⟨p, n, w, rfl, _⟩ := h
    rfl
  · obtain ⟨p, n, w, rfl, t, q⟩ := h
    obtain ⟨dx, l, h1, h2⟩ := t.ob
    refine ⟨_, pss_one (ps_ret (pe_callB call_len_seq (by rfl) T.g_len PySem.boot_len (pa_cons (pe_fld (pv 0) rfl) pa_nil))), ?_⟩
    refine ⟨_, rfl, p, A.C, dx, _, _, rfl, h1, T.cT, T.nPl, tf_pl _ _ _, l, _, rfl, .inr (SqT.of h2), ?_⟩
    rw [pl_len]
    exact q
theorem ok_iter (T : Tx K mg A) : FnIt P w K mg base 2 A.f_t___iter__ A.d_t___iter__ ["self"] (spIter K A.C "_places") := by
  refine fnIt_of T.F_t___iter__ sc_t___iter__ (fun cdv B outer s H vs Q hr h => ?_)
  obtain ⟨a, dx, fs, t, zs, rfl, ha, hf, ht, q⟩ := h
  refine ⟨_, pss_one (ps_ret (pe_callB call_iterT (by rfl) T.g_iter (by decide +kernel) (pa_cons (pe_fld (pv 0) rfl) pa_nil))), ?_⟩
  exact ⟨_, rfl, a, A.C, dx, _, _, rfl, ha, T.cT, T.nPl, hf, t, zs, rfl, ht, q⟩
/-- the children of a place, as the program cuts them -/
def kids (n w i : Nat) : List V := cutV (pl n) (some ((i : Int) * (w : Int) + 1)) (some ((i : Int) * (w : Int) + 1 + (w : Int)))
def spGi (C : Addr) : Sp := fun vs H Q _ => ∃ (p n w i : Nat), vs = [.ref p, .int i] ∧ TreeAt C H p n w ∧ i < n ∧ ∀ H' q, Same H H' → H' q = some (.tup (kids n w i)) → Q (.ref q) H'
theorem ok_gi (T : Tx K mg A) : FnOk P w K mg base CX0 4 A.f_t___getitem__ A.d_t___getitem__ ["self", "place"] (spGi A.C) := by
  refine T.F_t___getitem__.ok sc_t___getitem__ (fun vs H Q E h => ?_) (fun cdv B outer s H vs Q E hr h => ?_)
  · obtain ⟨p, n, w, i, rfl, _⟩ := h
    rfl
  · obtain ⟨p, n, w, i, rfl, t, hi, q⟩ := h
    obtain ⟨dx, l, h1, h2⟩ := t.ob
    refine ⟨_, pss_cons (ps_expr (pe_call (ok_cp T) hr (by rfl) T.m_check_place T.F_check_place.kp (b_cp T) .nil pass0 (pa_cons (pv 1) (pa_cons (pe_fld (pv 0) rfl) pa_nil))))
      (pss_cons (ps_set (i := 2) sc_t___getitem__.nd rfl (Or.inl rfl) (pe_op op_add (pe_op op_mul (pv 1) (pe_fld (pv 0) rfl)) pe_int))
      (pss_one (ps_ret (pe_slice sl_tup (pe_fld (pv 0) rfl) (po_some (pv 2)) (po_some (pe_op op_add (pv 2) (pe_fld (pv 0) rfl))))))), ?_⟩
    refine ⟨_, rfl, _, rfl, p, A.C, dx, _, _, rfl, h1, T.cT, T.nMany, tf_many _ _ _, _, _, rfl, ⟨by omega, by omega⟩, ?_⟩
    refine ⟨_, rfl, _, rfl, p, A.C, dx, _, _, rfl, h1, T.cT, T.nArms, tf_arms _ _ _, _, _, rfl, rfl, .inl ⟨by have := t.hn; omega, by have := t.hn; omega⟩, _, _, rfl, rfl, ?_⟩
    refine ⟨_, rfl, p, A.C, dx, _, _, rfl, h1, T.cT, T.nPl, tf_pl _ _ _, ?_⟩
    refine ⟨_, rfl, _, rfl, _, rfl, _, rfl, p, A.C, dx, _, _, rfl, h1, T.cT, T.nArms, tf_arms _ _ _, _, _, rfl, rfl, _, rfl, ?_⟩
    refine ⟨l, pl n, rfl, SqT.of h2, fun z => ?_, fun r hr0 => q _ r (Same.up hr0) upd_same⟩
    have z1 := z.1
    rw [pl_len, show ((i : Int) * (w : Int) + 1) = ((i * w + 1 : Nat) : Int) by push_cast; rfl, HT.sIx_nat] at z1
    omega

end
end Tw

set_option Elab.async false
set_option linter.all false
set_option maxRecDepth 100000
set_option maxHeartbeats 2000000
namespace Tw
open PySem PySem.Spec PyProof.Rows L2
section
variable {P : Program} {w : World} {K : PySem.W.Frag} {mg : Str → Option Value} {base : Heap} {A : Ad}

/-! ways -/
def upF : Nat → Nat → Nat → List Nat
  | 0, _, p => [p]
  | k + 1, w, p => if p = 0 then [0] else p :: upF k w ((p - 1) / w)
def upL (w p : Nat) : List Nat := upF 13 w p
def wayL (w p : Nat) : List Nat := (upL w p).reverse
def vi (l : List Nat) : List V := l.map fun i => V.int (i : Nat)
theorem up_eq : ∀ w, w < 5 → ∀ p, p < 13 → 1 ≤ w → upL w p = if p = 0 then [0] else p :: upL w ((p - 1) / w) := by decide +kernel
theorem up_len : ∀ w, w < 5 → ∀ p, p < 13 → 1 ≤ w → (upL w p).length ≤ 13 := by decide +kernel
theorem vi_len (l : List Nat) : (vi l).length = l.length := by unfold vi; rw [List.length_map]
theorem vi_app (a b : List Nat) : vi (a ++ b) = vi a ++ vi b := by unfold vi; rw [List.map_append]
theorem vi_rev (a : List Nat) : (vi a).reverse = vi a.reverse := by unfold vi; rw [List.map_reverse]
/-- the parent as the program says it -/
def parV (w p : Nat) : V := if p = 0 then .non else .int ((p - 1) / w : Nat)
def spPar (C : Addr) : Sp := fun vs H Q _ => ∃ (p n w i : Nat), vs = [.ref p, .int i] ∧ TreeAt C H p n w ∧ i < n ∧ Q (parV w i) H
theorem ok_par (T : Tx K mg A) : FnOk P w K mg base CX0 4 A.f_t_parent A.d_t_parent ["self", "place"] (spPar A.C) := by
  refine T.F_t_parent.ok sc_t_parent (fun vs H Q E h => ?_) (fun cdv B outer s H vs Q E hr h => ?_)
  · obtain ⟨p, n, w, i, rfl, _⟩ := h
    rfl
  · obtain ⟨p, n, w, i, rfl, t, hi, q⟩ := h
    obtain ⟨dx, l, h1, h2⟩ := t.ob
    refine ⟨_, pss_cons (ps_expr (pe_call (ok_cp T) hr (by rfl) T.m_check_place T.F_check_place.kp (b_cp T) .nil pass0 (pa_cons (pv 1) (pa_cons (pe_fld (pv 0) rfl) pa_nil))))
      (pss_cons (ps_if (pt_cmpR op_eq (pv 1) pe_int (nomark _)) (pss_one (ps_ret pe_non)) pss_nil)
      (pss_one (ps_ret (pe_op op_fdivN (pe_op op_sub (pv 1) pe_int) (pe_fld (pv 0) rfl))))), ?_⟩
    refine ⟨_, rfl, _, rfl, p, A.C, dx, _, _, rfl, h1, T.cT, T.nMany, tf_many _ _ _, _, _, rfl, ⟨by omega, by omega⟩, ?_⟩
    refine ⟨_, rfl, rfl, _, rfl, ?_⟩
    by_cases h0 : i = 0
    · rw [decide_eq_true (show V.int (i : Nat) = V.int 0 by rw [h0]; rfl)]
      refine iteT ?_
      unfold parV at q
      rw [if_pos h0] at q
      exact q
    · rw [decide_eq_false (show ¬ V.int (i : Nat) = V.int 0 by intro z; injection z with z; omega)]
      refine iteF ?_
      refine ⟨_, rfl, _, _, rfl, rfl, _, rfl, p, A.C, dx, _, _, rfl, h1, T.cT, T.nArms, tf_arms _ _ _, _, _, rfl, rfl, ⟨by have := t.hw; omega, by have := t.hw; omega⟩, ?_⟩
      unfold parV at q
      rw [if_neg h0] at q
      have e : Int.fdiv ((i : Int) - 1) (w : Int) = ((i - 1) / w : Nat) := by
        rw [Int.fdiv_eq_ediv_of_nonneg _ (by omega), show ((i : Int) - 1) = ((i - 1 : Nat) : Int) by omega]
        rfl
      show Q (V.int (Int.fdiv ((i : Int) - 1) (w : Int))) H
      rw [e]
      exact q
/-- a number that falls while a place goes up -/
def muV : Option (Option V) → Nat
  | some (some (V.int z)) => z.toNat + 1
  | _ => 0
def spWay (C : Addr) : Sp := fun vs H Q _ => ∃ (p n w i : Nat), vs = [.ref p, .int i] ∧ TreeAt C H p n w ∧ i < n ∧ ∀ H' q, Same H H' → H q = none → H' q = some (.tup (vi (wayL w i))) → Q (.ref q) H'
theorem ok_way (T : Tx K mg A) : FnOk P w K mg base CX0 5 A.f_t_way_to A.d_t_way_to ["self", "place"] (spWay A.C) := by
  refine T.F_t_way_to.ok sc_t_way_to (fun vs H Q E h => ?_) (fun cdv B outer s H vs Q E hr h => ?_)
  · obtain ⟨p, n, w, i, rfl, _⟩ := h
    rfl
  · obtain ⟨p, n, w, i, rfl, t, hi, q⟩ := h
    refine ⟨_, pss_cons (ps_set (i := 2) sc_t_way_to.nd rfl (Or.inl rfl) (pe_lst (pa_cons (pv 1) pa_nil)))
      (pss_cons (ps_set (i := 3) sc_t_way_to.nd rfl (Or.inl rfl) (pe_meth (pv 0) T.cT T.M_t_parent (ok_par T) hr (b_par T) .nil pass0 (pa_cons (pv 1) pa_nil)))
      (pss_cons (ps_while PassesOwn.never (pt_cmpR op_notN (pv 3) pe_non (nomark _))
        (pss_cons (ps_expr (pe_bm PySem.F.plainAttrs_list PySem.F.slot_list_append PySem.F.type_list_append mt_append (pv 2) (pa_cons (pv 3) pa_nil)))
        (pss_one (ps_set (i := 3) sc_t_way_to.nd rfl (Or.inl rfl) (pe_meth (pv 0) T.cT T.M_t_parent (ok_par T) hr (b_par T) .nil pass0 (pa_cons (pv 3) pa_nil))))))
      (pss_one (ps_ret (pe_callTy call_tuple_of (by rfl) T.g_tuple (by decide +kernel) (pa_cons (pe_revL (pv 2)) pa_nil)))))), ?_⟩
    obtain ⟨dx, l, h1, h2⟩ := t.ob
    have noP : (tf n w l).lookup ("parent" : Str) = none := tf_no _ _ _ (by decide +kernel) (by decide +kernel) (by decide +kernel)
    refine ⟨_, rfl, by show 1 ≤ sizeLine; decide, fun d hd => ?_⟩
    have s1 : Same H (upd H d (.lst [V.int (i : Nat)])) := Same.up hd
    refine ⟨_, rfl, p, dx, _, rfl, s1 _ _ h1, noP, _, rfl, p, n, w, i, rfl, t.same s1, hi, ?_⟩
    refine while_by (fun σ H' => ∃ (c : Nat) (acc : List Nat), σ = [some (.ref p), some (.int i), some (.ref d), some (parV w c)] ∧ c < n ∧ Acc H d (vi (acc ++ [c])) H' ∧ acc ++ upL w c = upL w i ∧ acc.length ≤ 12)
      (fun σ _ => muV σ[3]?) ⟨i, [], rfl, hi, ⟨s1, hd, upd_same⟩, rfl, Nat.zero_le _⟩ ?_ ?_
    · rintro σ H' ⟨c, acc, rfl, hc, ac, ea, hl⟩
      have hn := t.hn
      have hw := t.hw
      have eu := up_eq w (by omega) c (by omega) hw.1
      refine ⟨_, rfl, rfl, _, rfl, ?_⟩
      by_cases h0 : c = 0
      · have ev : parV w c = V.non := by unfold parV; rw [if_pos h0]
        rw [ev, decide_eq_true (rfl : V.non = V.non)]
        refine iteF ?_
        rw [if_pos h0] at eu
        refine ⟨_, rfl, d, _, rfl, SqL.of ac.a, fun r hr0 => ⟨r, _, rfl, .inl ⟨SqL.of upd_same, fun u hu => q _ u (ac.s.trans ((Same.up hr0).trans (Same.up hu))) (ac.s.free ((Same.up hr0).free hu)) ?_⟩⟩⟩
        unfold wayL
        rw [upd_same, vi_rev, ← ea, eu, h0]
      · have ev : parV w c = V.int ((c - 1) / w : Nat) := by unfold parV; rw [if_neg h0]
        rw [ev, decide_eq_false (show ¬ V.int ((c - 1) / w : Nat) = V.non from fun z => nomatch z)]
        refine iteT ?_
        rw [if_neg h0] at eu
        have hlt : (c - 1) / w < c := Nat.lt_of_le_of_lt (Nat.div_le_self _ _) (by omega)
        have hL : acc.length + 1 + (upL w ((c - 1) / w)).length = (upL w i).length := by
          rw [← ea, eu, List.length_append, List.length_cons]
          omega
        have hL2 := up_len w (by omega) i (by omega) hw.1
        have hL3 := up_eq w (by omega) ((c - 1) / w) (by omega) hw.1
        have hL4 : 1 ≤ (upL w ((c - 1) / w)).length := by
          rw [hL3]
          split
          · exact Nat.le_refl _
          · rw [List.length_cons]; omega
        refine ⟨_, rfl, .inl ⟨rfl, _, SqL.of ac.a⟩, _, rfl, d, _, _, rfl, rfl, ac.a, small1000 (by rw [vi_len, List.length_append, List.length_singleton]; omega), ?_⟩
        have e2 : vi (acc ++ [c]) ++ [V.int ((c - 1) / w : Nat)] = vi (acc ++ [c] ++ [(c - 1) / w]) := by rw [vi_app (acc ++ [c])]; rfl
        rw [e2]
        have ac2 : Acc H d (vi (acc ++ [c] ++ [(c - 1) / w])) (upd H' d (.lst (vi (acc ++ [c] ++ [(c - 1) / w])))) := ac.push
        refine ⟨_, rfl, p, dx, _, rfl, ac2.s _ _ h1, noP, _, rfl, p, n, w, (c - 1) / w, rfl, t.same ac2.s, by omega, ?_⟩
        refine ⟨⟨(c - 1) / w, acc ++ [c], rfl, by omega, ac2, ?_, by rw [List.length_append, List.length_singleton]; omega⟩, ?_⟩
        · rw [← ea, eu, List.append_assoc]
          rfl
        · show muV (some (some (parV w ((c - 1) / w)))) < muV (some (some (V.int ((c - 1) / w : Nat))))
          unfold parV
          split
          · show 0 < _
            exact Nat.succ_pos _
          · rename_i h9
            show (((((c - 1) / w - 1) / w : Nat) : Int)).toNat + 1 < ((((c - 1) / w : Nat) : Int)).toNat + 1
            rw [Int.toNat_natCast, Int.toNat_natCast]
            exact Nat.succ_lt_succ (Nat.lt_of_le_of_lt (Nat.div_le_self _ _) (Nat.sub_lt (Nat.pos_of_ne_zero h9) Nat.one_pos))
    · rintro σ' H1 Q1 Q2 mono ⟨v, hv, e1, b1, e2, z⟩
      exact ⟨v, hv, e1, b1, e2, mono _ _ z⟩

end
end Tw

set_option Elab.async false
set_option linter.all false
set_option maxRecDepth 100000
set_option maxHeartbeats 2000000
namespace Tw
open PySem PySem.Spec PyProof.Rows L2
section
variable {P : Program} {w : World} {K : PySem.W.Frag} {mg : Str → Option Value} {base : Heap} {A : Ad}

/-! the law's own defs -/
theorem ints_dp (K : PySem.W.Frag) (H : Hp) : ∀ ns : List Int, DpAll K H (ns.map V.int) (ns.map PyData.int)
  | [] => .nil
  | n :: ns => .cons (.int n) (ints_dp K H ns)
theorem emp_eqv : ∀ ns : List Int, PyData.eqv (.list (ns.map PyData.int)) (.list []) = decide (ns = [])
  | [] => by rfl
  | n :: ns => by rfl
theorem shaped_ints (ns : List Int) : SeqAt.shaped (.list (ns.map PyData.int)) = true := by
  have h1 : ∀ ms : List Int, PyData.canLayAll0 (ms.map PyData.int) = true := fun ms => by
    induction ms with
    | nil => rfl
    | cons m ms ih => rw [List.map_cons, PyData.canLayAll0, ih]; rfl
  have h2 : ∀ ms : List Int, PyData.depthAll (ms.map PyData.int) ≤ 1 := fun ms => by
    induction ms with
    | nil => simp [PyData.depthAll]
    | cons m ms ih =>
      simp only [List.map_cons, PyData.depthAll, PyData.depth]
      omega
  have h3 : PyData.depth (.list (ns.map PyData.int)) ≤ 64 := by
    have := h2 ns
    simp only [PyData.depth]
    omega
  unfold SeqAt.shaped
  rw [decide_eq_true h3, Bool.and_true]
  simp only [PyData.canLay0]
  exact h1 ns
theorem cut63 (xs : List V) (h : xs.length ≤ 63) : cutV xs none (some 63) = xs := by
  unfold cutV
  rw [HT.sIx_none, show (63 : Int) = ((63 : Nat) : Int) from rfl, HT.sIx_nat, List.drop_zero, Nat.min_eq_right h, Nat.sub_zero, List.take_length]
def spNum (K : PySem.W.Frag) : Sp := fun vs H Q _ => ∃ (a : Addr) (ns : List Int) (i : Nat), vs = [.ref a, .int i] ∧ SqL K H a (ns.map V.int) ∧ ns.length ≤ 63 ∧ i < 1000000 ∧ ∀ H' r, Same H H' → Q (.int r) H'
theorem ok_num (T : Tx K mg A) : FnOk P w K mg base CX0 2 A.f__law_number A.d__law_number ["script", "index"] (spNum K) := by
  refine T.F__law_number.ok sc__law_number (fun vs H Q E h => ?_) (fun cdv B outer s H vs Q E hr h => ?_)
  · obtain ⟨a, ns, i, rfl, _⟩ := h
    rfl
  · obtain ⟨a, ns, i, rfl, ha, hl, hi, q⟩ := h
    have nd := sc__law_number.nd
    have hu := hr.units
    refine ⟨_, C8.pss_cut (ps_set (i := 2) nd rfl (Or.inl rfl) (pe_ifExp (pt_cmpR (op_neD hu) (pv 0) (pe_lst pa_nil) (nomark _)) (pe_slice sl_list (pv 0) po_none (po_some pe_int)) (pe_lst (pa_cons pe_int pa_nil))))
      (pss_cons (ps_set (i := 3) nd rfl (Or.inl rfl) (pe_op op_add
        (pe_ix ix_list (pv 2) (pe_op op_mod (pe_callTy call_int1 (by rfl) T.g_int (by decide +kernel) (pa_cons (pv 1) pa_nil)) (pe_callB call_len_seq (by rfl) T.g_len PySem.boot_len (pa_cons (pv 2) pa_nil))) (fun _ _ => rfl))
        (pe_op op_mul pe_int (pe_op op_fdivN (pv 1) (pe_callB call_len_seq (by rfl) T.g_len PySem.boot_len (pa_cons (pv 2) pa_nil))))))
      (pss_cons (ps_par (i := 4) (j := 5) rfl nd rfl rfl (by decide) rfl rfl (pa_cons (pe_op op_mod (pe_callTy call_int1 (by rfl) T.g_int (by decide +kernel) (pa_cons (pv 3) pa_nil)) pe_int)
          (pa_cons (pe_op op_mod (pe_callTy call_int1 (by rfl) T.g_int (by decide +kernel) (pa_cons (pe_op op_fdivN (pv 3) pe_int) pa_nil)) pe_int) pa_nil)) rfl)
      (pss_cons (ps_set (i := 6) nd rfl (Or.inl rfl) (pe_op op_mod (pe_callTy call_int1 (by rfl) T.g_int (by decide +kernel) (pa_cons (pe_callB (cr_sum rfl) (by rfl) T.g_sum (by decide +kernel) (pa_cons (pv 2) pa_nil)) pa_nil)) pe_int))
      (pss_cons (ps_set (i := 7) nd rfl (Or.inl rfl) (pe_op op_mod (pe_callTy call_int1 (by rfl) T.g_int (by decide +kernel) (pa_cons
          (pe_op op_add (pe_op op_add (pe_op op_mul (pe_op op_add (pv 4) (pe_op op_mul pe_int (pv 1))) pe_int) (pe_op op_mul pe_int (pv 5))) (pv 6)) pa_nil)) pe_int))
      (pss_one (ps_ret (pe_op op_add (pe_op op_mul (pe_op op_mod (pe_callTy call_int1 (by rfl) T.g_int (by decide +kernel) (pa_cons
          (pe_op op_mul (pv 7) (pe_op op_add (pe_op op_add (pv 7) (pe_op op_mul pe_int (pv 1))) pe_int)) pa_nil)) pe_int) pe_int) (pv 5)))))))), ?_⟩
    refine ⟨fun σ H1 => ∃ (c : Addr) (cs : List Int), σ = [some (.ref a), some (.int i), some (.ref c), none, none, none, none, none] ∧ Same H H1 ∧ H1 c = some (.lst (cs.map V.int)) ∧ 0 < cs.length ∧ cs.length ≤ 63, ?_, ?_⟩
    · refine ⟨_, rfl, Nat.zero_le _, fun l0 hl0 => ?_⟩
      have hs0 : Same H (upd H l0 (.lst [])) := Same.up hl0
      refine ⟨.list (ns.map PyData.int), .list [], .lst (hs0.seq ha) (ints_dp _ _ _), .lst (SqL.of upd_same) .nil, ?_, rfl, _, rfl, ?_⟩
      · exact shaped_ints _
      · rw [emp_eqv]
        by_cases e : ns = []
        · rw [decide_eq_true e]
          refine iteF ⟨by show 1 ≤ sizeLine; decide, fun l1 hl1 => ⟨l1, [5], rfl, hs0.trans (Same.up hl1), upd_same, by decide, by decide⟩⟩
        · rw [decide_eq_false e]
          refine iteT ⟨_, rfl, _, rfl, a, _, rfl, hs0.seq ha, fun l1 hl1 => ⟨l1, ns, rfl, hs0.trans (Same.up hl1), ?_, ?_, hl⟩⟩
          · rw [upd_same]
            exact congrArg (fun z => some (HO.lst z)) (cut63 _ (by rw [List.length_map]; exact hl))
          · exact List.length_pos_iff.mpr e
    · rintro σ H1 ⟨c, cs, rfl, s1, hc, h0, h63⟩
      have hq := SqL.of (K := K) hc
      have hL : ((cs.map V.int).length : Int) = (cs.length : Int) := by rw [List.length_map]
      have hm0 : 0 ≤ (i : Int) % (cs.length : Int) := Int.emod_nonneg _ (by omega)
      have hm1 : (i : Int) % (cs.length : Int) < (cs.length : Int) := Int.emod_lt_of_pos _ (by omega)
      obtain ⟨j, hj⟩ : ∃ j : Nat, (i : Int) % (cs.length : Int) = (j : Int) := ⟨_, (Int.toNat_of_nonneg hm0).symm⟩
      have hjl : j < cs.length := by omega
      have hat : atI (cs.map V.int) ((i : Int) % ((cs.map V.int).length : Int)) = some (V.int cs[j]) := by
        rw [hL, hj]
        exact atI_nat (by rw [List.getElem?_map, List.getElem?_eq_getElem hjl]; rfl)
      refine ⟨_, rfl, _, rfl, .inl ⟨_, rfl, _, rfl, c, _, rfl, .inl hq, _, _, rfl, rfl, ?_, c, _, _, _, rfl, rfl, hq, hat, _, rfl, _, rfl, c, _, rfl, .inl hq, _, _, rfl, rfl, ⟨?_, ?_⟩, _, _, rfl, rfl, .inl ⟨by decide, by decide⟩, _, _, rfl, rfl, ?_⟩⟩
      · show (0 : Int) < ((cs.map V.int).length : Int)
        omega
      · omega
      · omega
      · refine ⟨_, rfl, .inl ⟨_, rfl, _, _, rfl, rfl, by show (0 : Int) < 1000003; decide, ?_⟩⟩
        refine ⟨_, rfl, _, _, rfl, rfl, ⟨by decide, by decide⟩, .inl ⟨_, rfl, _, _, rfl, rfl, by show (0 : Int) < 999983; decide, _, _, rfl, ?_⟩⟩
        refine ⟨_, rfl, c, cs, rfl, hq, .inl ⟨_, rfl, _, _, rfl, rfl, by show (0 : Int) < 65521; decide, ?_⟩⟩
        refine ⟨_, rfl, _, rfl, _, _, rfl, rfl, .inl ⟨by decide, by decide⟩, _, _, rfl, rfl, _, _, rfl, rfl, .inr ⟨by decide, by decide⟩, ?_⟩
        refine ⟨_, rfl, _, _, rfl, rfl, .inl ⟨by decide, by decide⟩, _, _, rfl, rfl, _, rfl, _, _, rfl, rfl, .inl ⟨_, rfl, _, _, rfl, rfl, by show (0 : Int) < 2147483647; decide, ?_⟩⟩
        refine ⟨_, rfl, _, rfl, _, rfl, _, _, rfl, rfl, .inl ⟨by decide, by decide⟩, _, _, rfl, rfl, _, _, rfl, rfl, _, _, rfl, rfl, .inl ⟨?_, ?_⟩, .inl ⟨_, rfl, _, _, rfl, rfl, by show (0 : Int) < 2147483629; decide, ?_⟩⟩
        · have := Int.emod_nonneg ((((cs[j] + 13 * Int.fdiv (i : Int) ((cs.map V.int).length : Int)) % 1000003 + 977 * (i : Int)) * 48271 + 31 * (Int.fdiv (cs[j] + 13 * Int.fdiv (i : Int) ((cs.map V.int).length : Int)) 1000003 % 999983)) + cs.sum % 65521) (show (2147483647 : Int) ≠ 0 by decide)
          omega
        · have := Int.emod_lt_of_pos ((((cs[j] + 13 * Int.fdiv (i : Int) ((cs.map V.int).length : Int)) % 1000003 + 977 * (i : Int)) * 48271 + 31 * (Int.fdiv (cs[j] + 13 * Int.fdiv (i : Int) ((cs.map V.int).length : Int)) 1000003 % 999983)) + cs.sum % 65521) (show (0 : Int) < 2147483647 by decide)
          omega
        · exact ⟨_, _, rfl, rfl, .inr ⟨by decide, by decide⟩, _, rfl, _, _, rfl, rfl, q _ _ s1⟩
theorem b_num (T : Tx K mg A) : L2.Binds K A.d__law_number ["script", "index"] [] := T.F__law_number.binds fun _ _ _ _ _ _ us hl => match us, hl with | [_, _], _ => rfl

/-- what stood, but for what stands at d -/
def But (d : Addr) (H H' : Hp) : Prop := ∀ b o, b ≠ d → H b = some o → H' b = some o
theorem But.of {d : Addr} {H H' : Hp} (s : Same H H') : But d H H' := fun b o _ e => s b o e
theorem But.trans {d : Addr} {H H1 H2 : Hp} (a : But d H H1) (b : But d H1 H2) : But d H H2 := fun c o n e => b c o n (a c o n e)
theorem But.put {d : Addr} {o : HO} {H : Hp} : But d H (upd H d o) := fun b u n e => by rw [upd_ne n]; exact e
theorem But.seq {d a : Addr} {H H' : Hp} {xs : List V} (s : But d H H') (h : SqL K H a xs) (n : a ≠ d ∨ ∀ H', SqL K H' a xs) : SqL K H' a xs := by
  rcases n with n | n
  rotate_left
  · exact n _
  rcases h with (h | ⟨o, h⟩) | h
  · exact .inl (.inl (s _ _ n h))
  · exact .inl (.inr ⟨o, s _ _ n h⟩)
  · exact .inr h
/-- the draws: a list of the script and of a number -/
structure DrAt (K : PySem.W.Frag) (H : Hp) (d a : Addr) (ns : List Int) (k : Nat) : Prop where
  l : H d = some (.lst [.ref a, .int k])
  n : a ≠ d ∨ ∀ H', SqL K H' a (ns.map V.int)
  s : SqL K H a (ns.map V.int)
  h : ns.length ≤ 63
theorem DrAt.start {K : PySem.W.Frag} {H : Hp} {d a : Addr} {ns : List Int} (ha : SqL K H a (ns.map V.int)) (hl : ns.length ≤ 63) (hd : H d = none) : DrAt K (upd H d (.lst [.ref a, .int 0])) d a ns 0 := by
  refine ⟨upd_same, ?_, (Same.up hd).seq ha, hl⟩
  rcases ha with (h | ⟨o, h⟩) | h
  · exact .inl (ne_of_none h hd)
  · exact .inl (ne_of_none h hd)
  · exact .inr fun H' => .inr h
theorem DrAt.same {K : PySem.W.Frag} {H H' : Hp} {d a : Addr} {ns : List Int} {k : Nat} (h : DrAt K H d a ns k) (s : Same H H') : DrAt K H' d a ns k := ⟨s _ _ h.l, h.n, s.seq h.s, h.h⟩
def spTake (K : PySem.W.Frag) : Sp := fun vs H Q _ => ∃ (d a : Addr) (ns : List Int) (k m : Nat), vs = [.ref d, .int m] ∧ DrAt K H d a ns k ∧ k < 100000 ∧ 0 < m ∧
  ∀ (H' : Hp) (r : Nat), But d H H' → DrAt K H' d a ns (k + 1) → r < m → Q (.int r) H'
theorem ok_take (T : Tx K mg A) : FnOk P w K mg base CX0 3 A.f__law_take A.d__law_take ["draw", "many"] (spTake K) := by
  refine T.F__law_take.ok sc__law_take (fun vs H Q E h => ?_) (fun cdv B outer s H vs Q E hr h => ?_)
  · obtain ⟨d, a, ns, k, m, rfl, _⟩ := h
    rfl
  · obtain ⟨d, a, ns, k, m, rfl, ⟨hl, hn, hs, h63⟩, hk, hm, q⟩ := h
    refine ⟨_, pss_cons (ps_asg (pe_op op_add (pe_ix ix_list (pv 0) pe_int (fun _ _ => rfl)) pe_int) (pg_sub (pv 0) pe_int set_list))
      (pss_one (ps_ret (pe_op op_mod (pe_callTy call_int1 (by rfl) T.g_int (by decide +kernel) (pa_cons
        (pe_call (ok_num T) hr (by rfl) T.m__law_number T.F__law_number.kp (b_num T) .nil pass0 (pa_cons (pe_ix ix_list (pv 0) pe_int (fun _ _ => rfl))
          (pa_cons (pe_callTy call_int1 (by rfl) T.g_int (by decide +kernel) (pa_cons (pe_ix ix_list (pv 0) pe_int (fun _ _ => rfl)) pa_nil)) pa_nil))) pa_nil)) (pv 1)))), ?_⟩
    have at1 : atI [V.ref a, V.int (k : Nat)] 1 = some (V.int (k : Nat)) := rfl
    refine ⟨_, rfl, d, _, _, _, rfl, rfl, SqL.of hl, at1, _, _, rfl, rfl, _, rfl, d, _, _, 1, rfl, rfl, hl, rfl, ?_⟩
    have e1 : upd H d (.lst (([V.ref a, V.int (k : Nat)]).set 1 (V.int ((k : Int) + 1)))) d = some (.lst [V.ref a, V.int ((k + 1 : Nat) : Int)]) := by
      rw [upd_same]
      rfl
    have b1 : But d H (upd H d (.lst (([V.ref a, V.int (k : Nat)]).set 1 (V.int ((k : Int) + 1))))) := But.put
    have s1 := b1.seq hs hn
    refine ⟨_, rfl, d, _, _, _, rfl, rfl, SqL.of e1, rfl, _, rfl, d, _, _, _, rfl, rfl, SqL.of e1, rfl, .inl ⟨_, rfl, a, ns, k + 1, rfl, s1, h63, by omega, fun H2 r s2 => ?_⟩⟩
    refine .inl ⟨_, rfl, _, rfl, _, _, rfl, rfl, by show (0 : Int) < (m : Nat); omega, ?_⟩
    have m0 := Int.emod_nonneg r (show ((m : Nat) : Int) ≠ 0 by omega)
    have m1 := Int.emod_lt_of_pos r (show (0 : Int) < (m : Nat) by omega)
    obtain ⟨z, hz⟩ : ∃ z : Nat, r % (m : Nat) = (z : Int) := ⟨_, (Int.toNat_of_nonneg m0).symm⟩
    have h := q H2 z (b1.trans (But.of s2)) ⟨s2 _ _ e1, hn, s2.seq s1, h63⟩ (by omega)
    rw [← hz] at h
    exact h
theorem b_take (T : Tx K mg A) : L2.Binds K A.d__law_take ["draw", "many"] [] := T.F__law_take.binds fun _ _ _ _ _ _ us hl => match us, hl with | [_, _], _ => rfl

/-! ways, children, subtrees by the law -/
def dl (l : List Nat) : List PyData := l.map fun i => PyData.int (i : Nat)
theorem dl_ints (l : List Nat) : dl l = (l.map fun i => ((i : Nat) : Int)).map PyData.int := by unfold dl; rw [List.map_map]; rfl
theorem vi_ints (l : List Nat) : vi l = (l.map fun i => ((i : Nat) : Int)).map V.int := by unfold vi; rw [List.map_map]; rfl
theorem vi_dp (K : PySem.W.Frag) (H : Hp) (l : List Nat) : DpAll K H (vi l) (dl l) := by
  rw [vi_ints, dl_ints]
  exact ints_dp _ _ _
theorem dl_shaped (l : List Nat) : SeqAt.shaped (.tuple (dl l)) = true := by
  rw [dl_ints]
  exact shaped_ints _
theorem dl_shapedL (l : List Nat) : SeqAt.shaped (.list (dl l)) = true := by
  rw [dl_ints]
  exact shaped_ints _
theorem refl_of {d : PyData} (h : SeqAt.shaped d = true) : PyData.eqv d d = true := PySem.SeqAt.eqv_refl d (SeqAt.canLay_of_shaped h)
def spLPar : Sp := fun vs H Q _ => ∃ (w i : Nat), vs = [.int w, .int i] ∧ (1 ≤ w ∧ w ≤ 4) ∧ 1 ≤ i ∧ Q (.int ((i - 1) / w : Nat)) H
theorem ok_lpar (T : Tx K mg A) : FnOk P w K mg base CX0 2 A.f__law_parent A.d__law_parent ["wide", "place"] spLPar := by
  refine T.F__law_parent.ok sc__law_parent (fun vs H Q E h => ?_) (fun cdv B outer s H vs Q E hr h => ?_)
  · obtain ⟨w, i, rfl, _⟩ := h
    rfl
  · obtain ⟨w, i, rfl, hw, hi, q⟩ := h
    refine ⟨_, pss_one (ps_ret (pe_op op_fdivN (pe_callTy call_int1 (by rfl) T.g_int (by decide +kernel) (pa_cons (pe_op op_sub (pv 1) pe_int) pa_nil)) (pv 0))), ?_⟩
    refine ⟨_, rfl, _, _, rfl, rfl, .inl ⟨_, rfl, _, rfl, _, _, rfl, rfl, ⟨by omega, by omega⟩, ?_⟩⟩
    have e : Int.fdiv ((i : Int) - 1) (w : Int) = ((i - 1) / w : Nat) := by
      rw [Int.fdiv_eq_ediv_of_nonneg _ (by omega), show ((i : Int) - 1) = ((i - 1 : Nat) : Int) by omega]
      rfl
    show Q (V.int (Int.fdiv ((i : Int) - 1) (w : Int))) H
    rw [e]
    exact q
theorem b_lpar (T : Tx K mg A) : L2.Binds K A.d__law_parent ["wide", "place"] [] := T.F__law_parent.binds fun _ _ _ _ _ _ us hl => match us, hl with | [_, _], _ => rfl
def spLWay : Sp := fun vs H Q _ => ∃ (w i : Nat), vs = [.int w, .int i] ∧ (1 ≤ w ∧ w ≤ 4) ∧ i ≤ 12 ∧ ∀ H' q, Same H H' → H q = none → H' q = some (.lst (vi (wayL w i))) → Q (.ref q) H'
theorem up_head : ∀ w, w < 5 → ∀ p, p < 13 → 1 ≤ w → upL w p = p :: (upL w p).tail := by decide +kernel
theorem way_len : ∀ w, w < 5 → ∀ p, p < 13 → 1 ≤ w → (wayL w p).length ≤ 13 := by decide +kernel
theorem ok_lway (T : Tx K mg A) : FnOk P w K mg base CX0 3 A.f__law_way A.d__law_way ["wide", "place"] spLWay := by
  refine T.F__law_way.ok sc__law_way (fun vs H Q E h => ?_) (fun cdv B outer s H vs Q E hr h => ?_)
  · obtain ⟨w, i, rfl, _⟩ := h
    rfl
  · obtain ⟨w, i, rfl, hw, hi, q⟩ := h
    have nd := sc__law_way.nd
    refine ⟨_, pss_cons (ps_set (i := 2) nd rfl (Or.inl rfl) (pe_lst (pa_cons (pv 1) pa_nil)))
      (pss_cons (ps_for PassesOwn.never rfl (pi_range1 rfl T.g_range (pa_cons pe_int pa_nil)) (pg_name (i := 3) nd rfl (Or.inl rfl))
        (pss_cons (ps_if (pt_cmpR op_eq (pe_ix ix_list (pv 2) pe_int (fun _ _ => rfl)) pe_int (nomark _)) (pss_one (ps_ret (pv 2))) pss_nil)
        (pss_one (ps_set (i := 2) nd rfl (Or.inl rfl) (pe_op op_cat (pe_lst (pa_cons (pe_call (ok_lpar T) hr (by rfl) T.m__law_parent T.F__law_parent.kp (b_lpar T) .nil pass0 (pa_cons (pv 0) (pa_cons (pe_ix ix_list (pv 2) pe_int (fun _ _ => rfl)) pa_nil))) pa_nil)) (pv 2))))))
      (pss_one (ps_ret (pv 2)))), ?_⟩
    refine ⟨_, rfl, by show 1 ≤ sizeLine; decide, fun d hd => ?_⟩
    refine ⟨20, rfl, by decide, by decide, for_range (n := 20) (fun k σ H' => ∃ (c : Nat) (L : List Nat) (a : Addr) (z : Option V), σ = [some (.int w), some (.int i), some (.ref a), z] ∧ Same H H' ∧ H a = none ∧ H' a = some (.lst (vi (c :: L))) ∧
      wayL w i = (upL w c).tail.reverse ++ (c :: L) ∧ c + k ≤ 12) ⟨i, [], d, none, rfl, Same.up hd, hd, upd_same, ?_, by omega⟩ ?_ ?_⟩
    · unfold wayL
      have h := up_head w (by omega) i (by omega) hw.1
      rw [h, List.reverse_cons]
      rfl
    · rintro k σ H' hk ⟨c, L, a, z, rfl, s1, a0, ha, eq, hc⟩
      have hat : atI (vi (c :: L)) 0 = some (V.int (c : Nat)) := atI_nat (j := 0) rfl
      refine ⟨_, rfl, a, _, _, _, rfl, rfl, SqL.of ha, hat, rfl, _, rfl, ?_⟩
      by_cases h0 : c = 0
      · rw [decide_eq_true (show V.int (c : Nat) = V.int 0 by rw [h0]; rfl)]
        refine iteT ⟨_, rfl, q _ a s1 a0 ?_⟩
        subst h0
        have e0 := up_eq w (by omega) 0 (by omega) hw.1
        rw [if_pos rfl] at e0
        rw [e0] at eq
        rw [ha, eq]
        rfl
      · rw [decide_eq_false (show ¬ V.int (c : Nat) = V.int 0 by intro z; injection z with z; omega)]
        refine iteF ?_
        have hlt : (c - 1) / w < c := Nat.lt_of_le_of_lt (Nat.div_le_self _ _) (by omega)
        have e1 := up_eq w (by omega) c (by omega) hw.1
        rw [if_neg h0] at e1
        have e2 := up_head w (by omega) ((c - 1) / w) (by omega) hw.1
        have hlen : (c :: L).length ≤ 13 := by
          have h3 := way_len w (by omega) i (by omega) hw.1
          rw [eq, List.length_append] at h3
          omega
        refine ⟨_, rfl, _, rfl, a, _, _, _, rfl, rfl, SqL.of ha, hat, w, c, rfl, hw, by omega, by show 1 ≤ sizeLine; decide, fun a2 ha2 => ?_⟩
        have s2 : Same H' (upd H' a2 (.lst [V.int ((c - 1) / w : Nat)])) := Same.up ha2
        refine ⟨_, rfl, a2, a, _, _, rfl, rfl, upd_same, s2 _ _ ha, ?_, fun a3 ha3 => ?_⟩
        · rw [vi_len]
          exact Nat.le_of_lt (small1000 (by rw [List.length_singleton]; omega))
        · refine ⟨(c - 1) / w, c :: L, a3, _, rfl, s1.trans (s2.trans (Same.up ha3)), (s1.trans s2).free ha3, upd_same, ?_, by omega⟩
          rw [eq, e1, List.tail_cons]
          conv => lhs; rw [e2]
          rw [List.reverse_cons, List.append_assoc]
          rfl
    · rintro σ H' ⟨c, L, a, z, rfl, s1, a0, ha, eq, hc⟩
      omega
theorem b_lway (T : Tx K mg A) : L2.Binds K A.d__law_way ["wide", "place"] [] := T.F__law_way.binds fun _ _ _ _ _ _ us hl => match us, hl with | [_, _], _ => rfl


/-- the children as the law looks for them -/
def kidL (n w i : Nat) : List Nat := ((List.range (n - 1)).filter fun j => decide (j / w = i)).map (· + 1)
theorem kid_pick (n w i : Nat) : vi (kidL n w i) = (List.range (n - 1)).filterMap fun j => if j / w = i then some (V.int ((j + 1 : Nat) : Int)) else none := by
  unfold vi kidL
  induction List.range (n - 1) with
  | nil => rfl
  | cons a l ih =>
    by_cases h : a / w = i
    · rw [List.filter_cons_of_pos (by simp [h]), List.map_cons, List.map_cons, ih, List.filterMap_cons, if_pos h]
    · rw [List.filter_cons_of_neg (by simp [h]), ih, List.filterMap_cons, if_neg h]
def kidsN (n w i : Nat) : List Nat := ((List.range n).drop (min (i * w + 1) n)).take (min (i * w + 1 + w) n - min (i * w + 1) n)
theorem kids_same : ∀ n, n < 13 → ∀ w, w < 5 → ∀ i, i < n → 1 ≤ w → kidsN n w i = kidL n w i := by decide +kernel
theorem kids_eq (n w i : Nat) : kids n w i = vi (kidsN n w i) := by
  unfold kids cutV kidsN
  rw [pl_len, show ((i : Int) * (w : Int) + 1) = ((i * w + 1 : Nat) : Int) by push_cast; rfl, show (((i * w + 1 : Nat) : Int) + (w : Int)) = ((i * w + 1 + w : Nat) : Int) by push_cast; rfl, HT.sIx_nat, HT.sIx_nat]
  unfold vi pl
  rw [List.map_take, List.map_drop]
def spLKid : Sp := fun vs H Q _ => ∃ (w n i : Nat), vs = [.int w, .int n, .int i] ∧ (1 ≤ w ∧ w ≤ 4) ∧ n ≤ 12 ∧ i < n ∧ ∀ H' q, Same H H' → H q = none → H' q = some (.lst (vi (kidL n w i))) → Q (.ref q) H'
theorem ok_lkid (T : Tx K mg A) : FnOk P w K mg base CX0 3 A.f__law_children A.d__law_children ["wide", "many", "place"] spLKid := by
  refine T.F__law_children.ok sc__law_children (fun vs H Q E h => ?_) (fun cdv B outer s H vs Q E hr h => ?_)
  · obtain ⟨w, n, i, rfl, _⟩ := h
    rfl
  · obtain ⟨w, n, i, rfl, hw, hn, hi, q⟩ := h
    have nd := sc__law_children.nd
    refine ⟨_, pss_one (ps_ret (pe_lc (own := [("other", 3)]) (g := gName 3) rfl nd (pi_range2 rfl T.g_range (pa_cons pe_int (pa_cons (pv 1) pa_nil))) (blkOk_by (own := [("other", 3)]) (N := ["wide", "many", "place", "other"]) (sc := defScope s__law_children) (by decide +kernel))
      (fun _ _ _ _ _ => pg_name (i := 3) nd rfl (Or.inl rfl))
      (fun _ _ _ _ _ => pts_one (pt_cmpR op_eq (pe_call (ok_lpar T) hr (by rfl) T.m__law_parent T.F__law_parent.kp (b_lpar T) .nil pass0 (pa_cons (pv 0) (pa_cons (pv 3) pa_nil))) (pv 2) (nomark _))) (fun _ _ _ _ _ => pv 3))), ?_⟩
    refine ⟨_, rfl, _, _, rfl, ⟨by omega, by omega, by omega, by omega⟩, fun D hD => ?_⟩
    rw [show ((n : Int) - 1).toNat = n - 1 by omega]
    refine lc_it (walk_range (lo := 1) (n := n - 1)) (PickI H D (List.range (n - 1)) fun j => if j / w = i then some (V.int ((j + 1 : Nat) : Int)) else none) (pick_start hD) (fun k H' _ h => trivial) ?_ ?_
    · rintro k x H2 H3 hk pk ⟨rfl, ex⟩
      have ex2 : x = V.int ((k + 1 : Nat) : Int) := ex.trans (by show V.int (1 + (k : Int)) = _; rw [show (1 + (k : Int)) = ((k + 1 : Nat) : Int) by omega])
      subst ex2
      have hk' : k < (List.range (n - 1)).length := by rw [List.length_range]; exact hk
      refine ⟨rfl, _, rfl, _, rfl, w, k + 1, rfl, hw, by omega, _, rfl, rfl, _, rfl, ?_⟩
      rw [show k + 1 - 1 = k by omega]
      by_cases hm : k / w = i
      · rw [decide_eq_true (show V.int ((k / w : Nat) : Int) = V.int (i : Nat) by rw [hm])]
        exact iteT ⟨_, rfl, pick_yes hk' (by rw [List.length_range]; omega) (by rw [List.getElem_range, if_pos hm]) (Same.refl _) pk⟩
      · rw [decide_eq_false (show ¬ V.int ((k / w : Nat) : Int) = V.int (i : Nat) from fun z => hm (by injection z with z; exact Int.ofNat.inj z))]
        exact iteF (pick_no hk' (by rw [List.getElem_range, if_neg hm]) (Same.refl _) pk)
    · intro H2 pk
      have ac := pick_end (by rw [List.length_range]) pk
      refine q _ D ac.s hD ?_
      rw [ac.a, kid_pick]
theorem b_lkid (T : Tx K mg A) : L2.Binds K A.d__law_children ["wide", "many", "place"] [] := T.F__law_children.binds fun _ _ _ _ _ _ us hl => match us, hl with | [_, _, _], _ => rfl

def spKeys (K : PySem.W.Frag) : Sp := fun vs H Q _ => ∃ (d a : Addr) (ns : List Int) (k m s : Nat), vs = [.ref d, .int m, .int s] ∧ DrAt K H d a ns k ∧ k < 50000 ∧ m ≤ 12 ∧ 0 < s ∧
  ∀ (H' : Hp) (q : Addr) (ks : List Int) (k' : Nat), But d H H' → DrAt K H' d a ns k' → k' ≤ k + 14 → ks.length ≤ m → (∀ z ∈ ks, -((s : Int) / 2) ≤ z ∧ z < (s : Int) - (s : Int) / 2) → H q = none → H' q = some (.lst (ks.map V.int)) → Q (.ref q) H'
theorem ok_keys (T : Tx K mg A) : FnOk P w K mg base CX0 4 A.f__law_keys A.d__law_keys ["draw", "most", "span"] (spKeys K) := by
  refine T.F__law_keys.ok sc__law_keys (fun vs H Q E h => ?_) (fun cdv B outer s H vs Q E hr h => ?_)
  · obtain ⟨d, a, ns, k, m, s, rfl, _⟩ := h
    rfl
  · obtain ⟨d, a, ns, k, m, sp, rfl, dr, hk, hm, hs, q⟩ := h
    have nd := sc__law_keys.nd
    refine ⟨_, pss_one (ps_ret (pe_lc (own := [("turn", 3)]) (g := gName 3) (tt := tYes) rfl nd (pi_range1 rfl T.g_range (pa_cons (pe_call (ok_take T) hr (by rfl) T.m__law_take T.F__law_take.kp (b_take T) .nil pass0 (pa_cons (pv 0) (pa_cons (pe_op op_add (pv 1) pe_int) pa_nil))) pa_nil))
      (blkOk_by (own := [("turn", 3)]) (N := ["draw", "most", "span", "turn"]) (sc := defScope s__law_keys) (by decide +kernel))
      (fun _ _ _ _ _ => pg_name (i := 3) nd rfl (Or.inl rfl)) (fun _ _ _ _ _ => pts_nil)
      (fun _ _ _ _ _ => pe_op op_sub (pe_call (ok_take T) hr (by rfl) T.m__law_take T.F__law_take.kp (b_take T) .nil pass0 (pa_cons (pv 0) (pa_cons (pv 2) pa_nil)))
        (pe_callTy call_int1 (by rfl) T.g_int (by decide +kernel) (pa_cons (pe_op op_fdiv (pv 2) pe_int) pa_nil))))), ?_⟩
    refine ⟨_, rfl, _, rfl, _, _, rfl, rfl, d, a, ns, k, m + 1, rfl, dr, by omega, by omega, fun H1 r b1 dr1 hr1 => ?_⟩
    refine ⟨_, rfl, by omega, by omega, fun D hD => ?_⟩
    rw [Int.toNat_natCast]
    have hDd : D ≠ d := fun z => by rw [z, dr1.l] at hD; cases hD
    have hD0 : H D = none := by
      cases e : H D with
      | none => rfl
      | some o => rw [b1 D o hDd e] at hD; cases hD
    refine lc_it (walk_range (lo := 0) (n := r)) (fun i H' => ∃ ks : List Int, H' D = some (.lst (ks.map V.int)) ∧ ks.length = i ∧ (∀ z ∈ ks, -((sp : Int) / 2) ≤ z ∧ z < (sp : Int) - (sp : Int) / 2) ∧ But d H H' ∧ DrAt K H' d a ns (k + 1 + i))
      ⟨[], upd_same, rfl, fun z hz => (nomatch hz), ?_, ?_⟩ (fun k H' _ h => trivial) ?_ ?_
    · exact b1.trans (But.of (Same.up hD))
    · exact ⟨(Same.up hD) _ _ dr1.l, dr1.n, (Same.up hD).seq dr1.s, dr1.h⟩
    · rintro i x H2 H3 hi ⟨ks, h1, h2, h3, h4, h5⟩ ⟨rfl, ex⟩
      refine ⟨rfl, ?_⟩
      refine iteT (B := ∃ ks : List Int, H3 D = some (.lst (ks.map V.int)) ∧ ks.length = i + 1 ∧ (∀ z ∈ ks, -((sp : Int) / 2) ≤ z ∧ z < (sp : Int) - (sp : Int) / 2) ∧ But d H H3 ∧ DrAt K H3 d a ns (k + 1 + (i + 1))) ?_
      refine ⟨_, rfl, _, rfl, d, a, ns, k + 1 + i, sp, rfl, h5, by omega, hs, fun H4 v b4 dr4 hv => ?_⟩
      refine ⟨_, rfl, _, _, rfl, rfl, ⟨by decide, by decide⟩, .inl ⟨_, rfl, _, _, rfl, rfl, ?_⟩⟩
      have bf : ∀ zs : List V, But d H (upd H4 D (.lst zs)) := fun zs b o hb e => by
        rw [upd_ne (ne_of_none e hD0)]
        exact b4 _ _ hb (h4 b o hb e)
      refine ⟨_, b4 _ _ hDd h1, small1000 (by rw [List.length_map]; omega), ks ++ [(v : Int) - (sp : Int) / 2], ?_, by rw [List.length_append, h2]; rfl, ?_, ?_, ?_⟩
      · rw [upd_same, List.map_append]
        rfl
      · intro z hz
        rcases List.mem_append.mp hz with hz | hz
        · exact h3 z hz
        · rw [List.mem_singleton.mp hz]
          omega
      · exact bf _
      · exact ⟨by rw [upd_ne hDd.symm]; exact dr4.l, dr4.n, (bf _).seq dr.s dr.n, dr4.h⟩
    · rintro H2 ⟨ks, h1, h2, h3, h4, h5⟩
      exact q _ D ks _ h4 h5 (by omega) (by omega) h3 hD0 h1
theorem b_keys (T : Tx K mg A) : L2.Binds K A.d__law_keys ["draw", "most", "span"] [] := T.F__law_keys.binds fun _ _ _ _ _ _ us hl => match us, hl with | [_, _, _], _ => rfl
theorem kb_of (T : Tx K mg A) : ∃ mv : List Value, KBn K A.d_t_of ["cls", "row", "arms"] 2 ["arms"] (fun us ws => us ++ (mv ++ ws)) (fun vs zs => vs ++ zs) := by
  obtain ⟨mv, h⟩ := T.F_t_of.kbinds0 (ps := ["cls", "row", "arms"]) 2 ["arms"] [] (fun us mv ws => us ++ (mv ++ ws)) (by simp) (by simp) (fun r1 r2 r3 => r1.append (r2.append r3))
    (fun D doc pm an cdv ct us mv ws h1 h2 h3 => by
      match us, mv, ws, h1, h2, h3 with
      | [a, b], [], [c], _, _, _ => rfl)
  exact ⟨mv, h⟩
theorem TreeAt.but {C d : Addr} {H H' : Hp} {p n w : Nat} {xs : List V} (h : TreeAt C H p n w) (s : But d H H') (hd : H d = some (.lst xs)) : TreeAt C H' p n w := by
  obtain ⟨dx, t, a, b⟩ := h.ob
  exact ⟨⟨dx, t, s _ _ (ne_of a hd (by intro z; cases z)) a, s _ _ (ne_of b hd (by intro z; cases z)) b⟩, h.hn, h.hw⟩
/-- what stood before an instance was made stands behind its making -/
theorem new_same {C x dx : Addr} {H H' : Hp} (nx : H x = none) (ndx : H dx = none) (k : ∀ b o, (upd (upd H dx (.own x)) x (.ins C dx [])) b = some o → b ≠ x → H' b = some o) : Same H H' := fun b o e => by
  refine k b o ?_ (ne_of_none e nx)
  rw [upd_ne (ne_of_none e nx), upd_ne (ne_of_none e ndx)]
  exact e

def spPick (K : PySem.W.Frag) : Sp := fun vs H Q _ => ∃ (d a b : Addr) (ns zs : List Int) (k : Nat), vs = [.ref d, .ref b] ∧ DrAt K H d a ns k ∧ k < 50000 ∧ H b = some (.lst (zs.map V.int)) ∧ b ≠ d ∧ 0 < zs.length ∧
  ∀ (H' : Hp) (z : Int), But d H H' → DrAt K H' d a ns (k + 1) → z ∈ zs → Q (.int z) H'
theorem ok_pick (T : Tx K mg A) : FnOk P w K mg base CX0 4 A.f__law_pick A.d__law_pick ["draw", "things"] (spPick K) := by
  refine T.F__law_pick.ok sc__law_pick (fun vs H Q E h => ?_) (fun cdv B outer s H vs Q E hr h => ?_)
  · obtain ⟨d, a, b, ns, zs, k, rfl, _⟩ := h
    rfl
  · obtain ⟨d, a, b, ns, zs, k, rfl, dr, hk, hb, hbd, hz, q⟩ := h
    refine ⟨_, pss_one (ps_ret (pe_ix ix_list (pv 1) (pe_call (ok_take T) hr (by rfl) T.m__law_take T.F__law_take.kp (b_take T) .nil pass0 (pa_cons (pv 0) (pa_cons (pe_callB call_len_seq (by rfl) T.g_len PySem.boot_len (pa_cons (pv 1) pa_nil)) pa_nil))) (fun _ _ => rfl))), ?_⟩
    refine ⟨_, rfl, _, rfl, _, rfl, b, _, rfl, .inl (SqL.of hb), d, a, ns, k, (zs.map V.int).length, rfl, dr, by omega, by rw [List.length_map]; exact hz, fun H1 r b1 dr1 hr1 => ?_⟩
    rw [List.length_map] at hr1
    have e : (zs.map V.int)[r]? = some (V.int zs[r]) := by rw [List.getElem?_map, List.getElem?_eq_getElem hr1]; rfl
    exact ⟨b, _, _, _, rfl, rfl, SqL.of (b1 _ _ hbd hb), atI_nat e, q H1 _ b1 dr1 (List.getElem_mem hr1)⟩
theorem b_pick (T : Tx K mg A) : L2.Binds K A.d__law_pick ["draw", "things"] [] := T.F__law_pick.binds fun _ _ _ _ _ _ us hl => match us, hl with | [_, _], _ => rfl
def spArm (K : PySem.W.Frag) : Sp := fun vs H Q _ => ∃ (d a : Addr) (ns : List Int) (k : Nat), vs = [.ref d] ∧ DrAt K H d a ns k ∧ k < 50000 ∧
  ∀ (H' : Hp) (w : Nat), But d H H' → DrAt K H' d a ns (k + 1) → (1 ≤ w ∧ w ≤ 4) → Q (.int w) H'
theorem ok_arm (T : Tx K mg A) : FnOk P w K mg base CX0 5 A.f__law_arms A.d__law_arms ["draw"] (spArm K) := by
  refine T.F__law_arms.ok sc__law_arms (fun vs H Q E h => ?_) (fun cdv B outer s H vs Q E hr h => ?_)
  · obtain ⟨d, a, ns, k, rfl, _⟩ := h
    rfl
  · obtain ⟨d, a, ns, k, rfl, dr, hk, q⟩ := h
    refine ⟨_, pss_one (ps_ret (pe_call (ok_pick T) hr (by rfl) T.m__law_pick T.F__law_pick.kp (b_pick T) .nil pass0 (pa_cons (pv 0) (pa_cons (pe_lst (pa_cons pe_int (pa_cons pe_int (pa_cons pe_int (pa_cons pe_int (pa_cons pe_int (pa_cons pe_int pa_nil))))))) pa_nil)))), ?_⟩
    refine ⟨_, rfl, by show 6 ≤ sizeLine; decide, fun b hb => ?_⟩
    have hbd : b ≠ d := fun z => by rw [z, dr.l] at hb; cases hb
    refine ⟨d, a, b, ns, [2, 2, 2, 3, 1, 4], k, rfl, dr.same (Same.up hb), hk, upd_same, hbd, by decide, fun H1 z b1 dr1 hz => ?_⟩
    have h4 : 1 ≤ z ∧ z ≤ 4 := by
      simp only [List.mem_cons, List.not_mem_nil, or_false] at hz
      omega
    obtain ⟨w, rfl⟩ : ∃ w : Nat, z = (w : Int) := ⟨z.toNat, by omega⟩
    exact q H1 w ((But.of (Same.up hb)).trans b1) dr1 ⟨by omega, by omega⟩
theorem b_arm (T : Tx K mg A) : L2.Binds K A.d__law_arms ["draw"] [] := T.F__law_arms.binds fun _ _ _ _ _ _ us hl => match us, hl with | [_], _ => rfl
end
end Tw

set_option Elab.async false
set_option linter.all false
set_option maxRecDepth 100000
set_option maxHeartbeats 2000000
namespace Tw
open PySem PySem.Spec PyProof.Rows L2
section
variable {P : Program} {w : World} {K : PySem.W.Frag} {mg : Str → Option Value} {base : Heap} {A : Ad}
/-! a key goes up, a key goes down -/
def keyAt (ks : List Int) (p : Nat) : Int := ks.getD p 0
def swp (ks : List Int) (a b : Nat) : List Int := (ks.set a (keyAt ks b)).set b (keyAt ks a)
theorem swp_len (ks : List Int) (a b : Nat) : (swp ks a b).length = ks.length := by unfold swp; rw [List.length_set, List.length_set]
def goUp (w : Nat) : Nat → List Int → Nat → List Nat → Nat → List Int × List Nat × Nat
  | 0, ks, _, way, lk => (ks, way, lk)
  | f + 1, ks, p, way, lk => if p = 0 then (ks, way, lk) else
      if keyAt ks p < keyAt ks ((p - 1) / w) then goUp w f (swp ks p ((p - 1) / w)) ((p - 1) / w) (way ++ [(p - 1) / w]) (lk + 1) else (ks, way, lk + 1)
def leastC (ks : List Int) (l : List Nat) : Nat := l.getD (PySem.argBest (fun i j => decide (keyAt ks (l.getD i 0) < keyAt ks (l.getD j 0))) (l.length - 1)) 0
theorem least_of {ks : List Int} {l : List Nat} {j : Nat} (h : Cl.FirstLeast (fun i => keyAt ks (l.getD i 0)) l.length j) : l.getD j 0 = leastC ks l := by
  have h0 := h.1
  obtain ⟨n, en⟩ : ∃ n, l.length = n + 1 := ⟨l.length - 1, by omega⟩
  have b := Cl.best_is (fun i => keyAt ks (l.getD i 0)) n
  rw [← en] at b
  unfold leastC
  rw [Cl.first_one h b, show l.length - 1 = n by omega]
theorem least_mem {ks : List Int} {l : List Nat} (h : l ≠ []) : leastC ks l ∈ l := by
  obtain ⟨n, en⟩ : ∃ n, l.length = n + 1 := ⟨l.length - 1, by have := List.length_pos_iff.mpr h; omega⟩
  have b := Cl.best_is (fun i => keyAt ks (l.getD i 0)) n
  rw [← en] at b
  rw [← least_of b, List.getD_eq_getElem?_getD, List.getElem?_eq_getElem b.1]
  exact List.getElem_mem b.1
def goDown (n w : Nat) : Nat → List Int → Nat → List Nat → Nat → List Int × List Nat × Nat
  | 0, ks, _, way, lk => (ks, way, lk)
  | f + 1, ks, p, way, lk => if kidL n w p = [] then (ks, way, lk) else
      if keyAt ks (leastC ks (kidL n w p)) < keyAt ks p then goDown n w f (swp ks p (leastC ks (kidL n w p))) (leastC ks (kidL n w p)) (way ++ [leastC ks (kidL n w p)]) (lk + (kidL n w p).length)
      else (ks, way, lk + (kidL n w p).length)
theorem up_chain : ∀ w, w < 5 → ∀ p, p < 13 → 1 ≤ w → ∀ i, i < (upL w p).length - 1 → (upL w p).getD i 0 ≠ 0 ∧ ((upL w p).getD i 0 - 1) / w = (upL w p).getD (i + 1) 0 := by decide +kernel
theorem up_ends : ∀ w, w < 5 → ∀ p, p < 13 → 1 ≤ w → (upL w p).getD ((upL w p).length - 1) 0 = 0 ∧ 1 ≤ (upL w p).length ∧ (upL w p).getD 0 0 = p ∧ ∀ i, i < (upL w p).length → (upL w p).getD i 0 ≤ p := by decide +kernel
theorem kid_len : ∀ n, n < 13 → ∀ w, w < 5 → ∀ i, i < n → 1 ≤ w → (kidL n w i).length ≤ 4 := by decide +kernel
theorem kid_in {n w i j : Nat} (hw : 1 ≤ w) (h : j ∈ kidL n w i) : i < j ∧ j < n := by
  unfold kidL at h
  obtain ⟨k, hk, rfl⟩ := List.mem_map.mp h
  obtain ⟨h1, h2⟩ := List.mem_filter.mp hk
  have h1 := List.mem_range.mp h1
  have h2 := of_decide_eq_true h2
  have : k / w ≤ k := Nat.div_le_self _ _
  omega
theorem up_res (w : Nat) : ∀ f ks p way lk, (goUp w f ks p way lk).1.length = ks.length
  | 0, ks, p, way, lk => rfl
  | f + 1, ks, p, way, lk => by
    unfold goUp
    split
    · rfl
    · split
      · rw [up_res w f, swp_len]
      · rfl
theorem down_res (n w : Nat) : ∀ f ks p way lk, (goDown n w f ks p way lk).1.length = ks.length
  | 0, ks, p, way, lk => rfl
  | f + 1, ks, p, way, lk => by
    unfold goDown
    split
    · rfl
    · split
      · rw [down_res n w f, swp_len]
      · rfl
/-! what a sift tells -/
theorem m1 : ¬ (("row" : Str) = "way") := by decide +kernel
theorem m2 : ¬ (("row" : Str) = "looks") := by decide +kernel
theorem m3 : ¬ (("way" : Str) = "looks") := by decide +kernel
def zf (t1 t2 lk : Nat) : List (Str × V) := putF "looks" (.int lk) (putF "way" (.ref t2) (putF "row" (.ref t1) []))
theorem zf_row (t1 t2 lk : Nat) : (zf t1 t2 lk).lookup ("row" : Str) = some (.ref t1) := by
  unfold zf
  rw [lookup_putF, if_neg m2, lookup_putF, if_neg m1, lookup_putF, if_pos rfl]
theorem zf_way (t1 t2 lk : Nat) : (zf t1 t2 lk).lookup ("way" : Str) = some (.ref t2) := by
  unfold zf
  rw [lookup_putF, if_neg m3, lookup_putF, if_pos rfl]
theorem zf_looks (t1 t2 lk : Nat) : (zf t1 t2 lk).lookup ("looks" : Str) = some (.int lk) := by
  unfold zf
  rw [lookup_putF, if_pos rfl]
/-- a Sift stands at p -/
def SiftAt (C : Addr) (H : Hp) (p : Addr) (ks ws : List Int) (lk : Nat) : Prop := ∃ (dx t1 t2 : Addr), H p = some (.ins C dx (zf t1 t2 lk)) ∧ H t1 = some (.tup (ks.map V.int)) ∧ H t2 = some (.tup (ws.map V.int))
theorem SiftAt.ext {C : Addr} {H H' : Hp} {p : Addr} {ks ws : List Int} {lk : Nat} (h : SiftAt C H p ks ws lk) (e : ∀ b o, H b = some o → (∀ ps, o ≠ .tbl ps) → H' b = some o) : SiftAt C H' p ks ws lk := by
  obtain ⟨dx, t1, t2, a, b, c⟩ := h
  exact ⟨dx, t1, t2, e _ _ a (fun ps z => nomatch z), e _ _ b (fun ps z => nomatch z), e _ _ c (fun ps z => nomatch z)⟩
theorem SiftAt.same {C : Addr} {H H' : Hp} {p : Addr} {ks ws : List Int} {lk : Nat} (h : SiftAt C H p ks ws lk) (s : Same H H') : SiftAt C H' p ks ws lk := h.ext fun b o e _ => s b o e
def spZi (C : Addr) : Sp := fun vs H Q _ => ∃ (p dx a b lk : Nat) (ks ws : List Int), vs = [.ref p, .ref a, .ref b, .int lk] ∧ H p = some (.ins C dx []) ∧ Sq H a (ks.map V.int) ∧ Sq H b (ws.map V.int) ∧ 
  ∀ (H' : Hp), (∀ b o, H b = some o → b ≠ p → H' b = some o) → SiftAt C H' p ks ws lk → Q .non H'
theorem ok_zi (T : Tx K mg A) : FnOk P w K mg base CX0 2 A.f_z___init__ A.d_z___init__ ["self", "row", "way", "looks"] (spZi A.CS) := by
  refine T.F_z___init__.ok sc_z___init__ (fun vs H Q E h => ?_) (fun cdv B outer s H vs Q E hr h => ?_)
  · obtain ⟨p, dx, a, b, lk, ks, ws, rfl, _⟩ := h
    rfl
  · obtain ⟨p, dx, a, b, lk, ks, ws, rfl, hp, ha, hb, q⟩ := h
    refine ⟨_, C8.pss_cut (ps_fld (pv 0) (pe_callTy call_tuple_of (by rfl) T.g_tuple (by decide +kernel) (pa_cons (pv 1) pa_nil)) rfl)
      (C8.pss_cut (ps_fld (pv 0) (pe_callTy call_tuple_of (by rfl) T.g_tuple (by decide +kernel) (pa_cons (pv 2) pa_nil)) rfl)
      (pss_one (ps_fld (pv 0) (pv 3) rfl))), ?_⟩
    have npa : p ≠ a := fun z => by rcases ha with h | h <;> rw [← z, hp] at h <;> cases h
    have npb : p ≠ b := fun z => by rcases hb with h | h <;> rw [← z, hp] at h <;> cases h
    refine ⟨fun σ H' => ∃ t1 : Addr, σ = L2.start ["self", "row", "way", "looks"] [.ref p, .ref a, .ref b, .int lk] ∧ (∀ c o, H c = some o → c ≠ p → H' c = some o) ∧ H' p = some (.ins A.CS dx (putF "row" (.ref t1) [])) ∧ H' t1 = some (.tup (ks.map V.int)) ∧ t1 ≠ p, ?_, ?_⟩
    · have go : ∀ (H1 : Hp) (t1 : Addr), Same H H1 → H1 t1 = some (.tup (ks.map V.int)) → ∃ t2 : Addr, (L2.start ["self", "row", "way", "looks"] [.ref p, .ref a, .ref b, .int lk]) = L2.start ["self", "row", "way", "looks"] [.ref p, .ref a, .ref b, .int lk] ∧ (∀ c o, H c = some o → c ≠ p → upd H1 p (.ins A.CS dx (putF "row" (.ref t1) [])) c = some o) ∧ upd H1 p (.ins A.CS dx (putF "row" (.ref t1) [])) p = some (.ins A.CS dx (putF "row" (.ref t2) [])) ∧ upd H1 p (.ins A.CS dx (putF "row" (.ref t1) [])) t2 = some (.tup (ks.map V.int)) ∧ t2 ≠ p := fun H1 t1 s1 e1 => by
        have n1 : t1 ≠ p := fun z => by rw [z, s1 _ _ hp] at e1; cases e1
        exact ⟨t1, rfl, fun c o e n => by rw [upd_ne n]; exact s1 _ _ e, upd_same, by rw [upd_ne n1]; exact e1, n1⟩
      rcases ha with h | h
      · exact ⟨_, rfl, a, _, rfl, .inl ⟨SqL.of h, fun t1 ht1 => ⟨_, rfl, p, A.CS, dx, _, rfl, (Same.up ht1) _ _ hp, T.cTS, T.nRow, (by show 0 < 1000; decide), go _ t1 (Same.up ht1) upd_same⟩⟩⟩
      · exact ⟨_, rfl, a, _, rfl, .inr ⟨SqT.of h, _, rfl, p, A.CS, dx, _, rfl, hp, T.cTS, T.nRow, (by show 0 < 1000; decide), go H a (Same.refl _) h⟩⟩
    rintro σ H1 ⟨t1, rfl, k1, hp1, e1, n1⟩
    have hb1 : Sq H1 b (ws.map V.int) := hb.elim (fun h => .inl (k1 _ _ h npb.symm)) fun h => .inr (k1 _ _ h npb.symm)
    refine ⟨fun σ H' => ∃ t2 : Addr, σ = L2.start ["self", "row", "way", "looks"] [.ref p, .ref a, .ref b, .int lk] ∧ (∀ c o, H1 c = some o → c ≠ p → H' c = some o) ∧ H' p = some (.ins A.CS dx (putF "way" (.ref t2) (putF "row" (.ref t1) []))) ∧ H' t2 = some (.tup (ws.map V.int)) ∧ t2 ≠ p, ?_, ?_⟩
    · have go : ∀ (H2 : Hp) (t2 : Addr), Same H1 H2 → H2 t2 = some (.tup (ws.map V.int)) → ∃ t3 : Addr, (L2.start ["self", "row", "way", "looks"] [.ref p, .ref a, .ref b, .int lk]) = L2.start ["self", "row", "way", "looks"] [.ref p, .ref a, .ref b, .int lk] ∧ (∀ c o, H1 c = some o → c ≠ p → upd H2 p (.ins A.CS dx (putF "way" (.ref t2) (putF "row" (.ref t1) []))) c = some o) ∧ upd H2 p (.ins A.CS dx (putF "way" (.ref t2) (putF "row" (.ref t1) []))) p = some (.ins A.CS dx (putF "way" (.ref t3) (putF "row" (.ref t1) []))) ∧ upd H2 p (.ins A.CS dx (putF "way" (.ref t2) (putF "row" (.ref t1) []))) t3 = some (.tup (ws.map V.int)) ∧ t3 ≠ p := fun H2 t2 s2 e2 => by
        have n2 : t2 ≠ p := fun z => by rw [z, s2 _ _ hp1] at e2; cases e2
        exact ⟨t2, rfl, fun c o e n => by rw [upd_ne n]; exact s2 _ _ e, upd_same, by rw [upd_ne n2]; exact e2, n2⟩
      rcases hb1 with h | h
      · exact ⟨_, rfl, b, _, rfl, .inl ⟨SqL.of h, fun t2 ht2 => ⟨_, rfl, p, A.CS, dx, _, rfl, (Same.up ht2) _ _ hp1, T.cTS, T.nWay, (by show 1 < 1000; decide), go _ t2 (Same.up ht2) upd_same⟩⟩⟩
      · exact ⟨_, rfl, b, _, rfl, .inr ⟨SqT.of h, _, rfl, p, A.CS, dx, _, rfl, hp1, T.cTS, T.nWay, (by show 1 < 1000; decide), go H1 b (Same.refl _) h⟩⟩
    rintro σ H2 ⟨t2, rfl, k2, hp2, e2, n2⟩
    refine ⟨_, rfl, _, rfl, p, A.CS, dx, _, rfl, hp2, T.cTS, T.nLooks, (by simp only [putF, m1, if_false]; show 2 < 1000; decide), ?_⟩
    refine q _ (fun c o e hc => ?_) ⟨dx, t1, t2, upd_same, ?_, ?_⟩
    · rw [upd_ne hc]
      exact k2 _ _ (k1 _ _ e hc) hc
    · rw [upd_ne n1]
      exact k2 _ _ e1 n1
    · rw [upd_ne n2]
      exact e2
theorem b_zi (T : Tx K mg A) : L2.Binds K A.d_z___init__ ["self", "row", "way", "looks"] [] := T.F_z___init__.binds fun _ _ _ _ _ _ us hl => match us, hl with | [_, _, _, _], _ => rfl
theorem b_zq (T : Tx K mg A) : L2.Binds K A.d_z___eq__ ["self", "other"] [] := T.F_z___eq__.binds fun _ _ _ _ _ _ us hl => match us, hl with | [_, _], _ => rfl
theorem ints_tup (K : PySem.W.Frag) {H : Hp} {a : Addr} {ks : List Int} (h : H a = some (.tup (ks.map V.int))) : Dp K H (.ref a) (.tuple (ks.map PyData.int)) := .tup (SqT.of h) (ints_dp K H ks)
theorem ints_shT (ks : List Int) : SeqAt.shaped (.tuple (ks.map PyData.int)) = true := by
  have h := shaped_ints ks
  unfold SeqAt.shaped at h ⊢
  simp only [PyData.canLay0, PyData.depth] at h ⊢
  exact h
theorem ints_all : ∀ ks ms : List Int, PyData.eqvAll (ks.map PyData.int) (ms.map PyData.int) = decide (ks = ms)
  | [], [] => by simp [PyData.eqvAll]
  | [], m :: ms => by simp [PyData.eqvAll]
  | k :: ks, [] => by simp [PyData.eqvAll]
  | k :: ks, m :: ms => by
    simp only [List.map_cons, PyData.eqvAll, ints_all ks ms, PyData.eqv]
    by_cases h1 : k = m
    · by_cases h2 : ks = ms <;> simp [h1, h2]
    · simp [h1]
theorem ints_eqv (ks ms : List Int) : PyData.eqv (.tuple (ks.map PyData.int)) (.tuple (ms.map PyData.int)) = decide (ks = ms) := by
  rw [← ints_all]
  simp [PyData.eqv]
def spZq (C : Addr) : Sp := fun vs H Q _ => ∃ (p lk : Nat) (ks ws : List Int) (y : V), vs = [.ref p, y] ∧ SiftAt C H p ks ws lk ∧
  ((∃ (p2 lk2 : Nat) (ks2 ws2 : List Int), y = .ref p2 ∧ SiftAt C H p2 ks2 ws2 lk2 ∧ Q (.bl (decide (ks = ks2 ∧ ws = ws2 ∧ lk = lk2))) H) ∨ (∃ (t : Addr) (xs : List V), y = .ref t ∧ H t = some (.tup xs) ∧ Q (.bl false) H))
theorem ok_zq (T : Tx K mg A) : FnOk P w K mg base CX0 2 A.f_z___eq__ A.d_z___eq__ ["self", "other"] (spZq A.CS) := by
  refine T.F_z___eq__.ok sc_z___eq__ (fun vs H Q E h => ?_) (fun cdv B outer s H vs Q E hr h => ?_)
  · obtain ⟨p, lk, ks, ws, y, rfl, _⟩ := h
    rfl
  · obtain ⟨p, lk, ks, ws, y, rfl, ⟨dx, t1, t2, h1, h2, h3⟩, h⟩ := h
    have hu := hr.units
    refine ⟨_, pss_one (ps_ret (pe_and (pe_callB call_isi (by rfl) T.g_isinstance (by decide +kernel) (pa_cons (pv 1) (pa_cons (pe_glob (v := .ref A.CS) (by rfl) T.mCS (relR _)) pa_nil)))
      (pe_and (pe_cmpR (op_eqD hu) (pe_fld (pv 0) rfl) (pe_fld (pv 1) rfl) (nomark _)) (pe_and (pe_cmpR (op_eqD hu) (pe_fld (pv 0) rfl) (pe_fld (pv 1) rfl) (nomark _)) (pe_one (pe_cmpR op_eq (pe_fld (pv 0) rfl) (pe_fld (pv 1) rfl) (nomark _))))))), ?_⟩
    rcases h with ⟨p2, lk2, ks2, ws2, rfl, ⟨dx2, u1, u2, g1, g2, g3⟩, q⟩ | ⟨t, xs, rfl, ht, q⟩
    · refine ⟨_, rfl, _, _, .ref A.CS, .ref A.CS, true, rfl, .own A.CS, .base (.ins g1 T.cTS T.kaS T.knS T.ktkS T.kmS), (by unfold PySem.W.kitOne; rw [if_pos (by simp)]), true, rfl, iteT ?_⟩
      refine ⟨_, rfl, p, A.CS, dx, _, _, rfl, h1, T.cTS, T.nRow, zf_row _ _ _, _, rfl, p2, A.CS, dx2, _, _, rfl, g1, T.cTS, T.nRow, zf_row _ _ _, _, _, ints_tup K h2, ints_tup K g2, ints_shT _, ints_shT _, _, rfl, ?_⟩
      rw [ints_eqv]
      by_cases e1 : ks = ks2
      · rw [decide_eq_true e1]
        refine iteT ⟨_, rfl, p, A.CS, dx, _, _, rfl, h1, T.cTS, T.nWay, zf_way _ _ _, _, rfl, p2, A.CS, dx2, _, _, rfl, g1, T.cTS, T.nWay, zf_way _ _ _, _, _, ints_tup K h3, ints_tup K g3, ints_shT _, ints_shT _, _, rfl, ?_⟩
        rw [ints_eqv]
        by_cases e2 : ws = ws2
        · rw [decide_eq_true e2]
          refine iteT ⟨_, rfl, p, A.CS, dx, _, _, rfl, h1, T.cTS, T.nLooks, zf_looks _ _ _, _, rfl, p2, A.CS, dx2, _, _, rfl, g1, T.cTS, T.nLooks, zf_looks _ _ _, rfl, ?_⟩
          have e : decide (ks = ks2 ∧ ws = ws2 ∧ lk = lk2) = decide (V.int (lk : Nat) = V.int (lk2 : Nat)) := by
            by_cases e3 : lk = lk2
            · rw [decide_eq_true ⟨e1, e2, e3⟩, decide_eq_true (by rw [e3])]
            · rw [decide_eq_false (fun z => e3 z.2.2), decide_eq_false (fun z => e3 (by injection z with z; omega))]
          rw [e] at q
          exact q
        · rw [decide_eq_false e2]
          rw [decide_eq_false (show ¬ (ks = ks2 ∧ ws = ws2 ∧ lk = lk2) from fun z => e2 z.2.1)] at q
          exact iteF q
      · rw [decide_eq_false e1]
        rw [decide_eq_false (show ¬ (ks = ks2 ∧ ws = ws2 ∧ lk = lk2) from fun z => e1 z.1)] at q
        exact iteF q
    · exact ⟨_, rfl, _, _, .type "tuple", .ref A.CS, false, rfl, .own A.CS, .base (.tup ht), T.kiS_tuple, false, rfl, iteF q⟩

end
end Tw

set_option Elab.async false
set_option linter.all false
set_option maxRecDepth 100000
set_option maxHeartbeats 2000000
namespace Tw
open PySem PySem.Spec PyProof.Rows L2
section
variable {P : Program} {w : World} {K : PySem.W.Frag} {mg : Str → Option Value} {base : Heap} {A : Ad}
/-- least_child -/
def spLc (K : PySem.W.Frag) (A : Ad) : Sp := fun vs H Q _ => ∃ (l a : Addr) (ks ns : List Int), vs = [.ref l, .ref a] ∧ SqL K H l (ks.map V.int) ∧ SqT K H a (ns.map V.int) ∧ 0 < ns.length ∧ (∀ n ∈ ns, 0 ≤ n ∧ n < ks.length) ∧ LamX.Tabs (TT A) H ∧
  ∀ (m : Int) (H' : Hp), LamX.ExtN H H' → LamX.Tabs (TT A) H' → Cl.LeastAt ks ns m → Q (.int m) H'
theorem ok_lc (T : Tx K mg A) (TB : LamX.TabB base mg A.c_least_child A.P_least_child) : FnOk P w K mg base CX0 2 A.f_least_child A.d_least_child ["keys", "children"] (spLc K A) := by
  obtain ⟨oc, od, kV, doc, pm, an, ct, osl, ed, lk, hcd⟩ := T.L_least_child
  rw [ed] at lk ⊢
  refine fn_of lk hcd sc_least_child (fun vs H Q E h => ?_) (fun B outer s H vs Q E hr h => ?_)
  · obtain ⟨l, a, ks, ns, rfl, _⟩ := h
    rfl
  · obtain ⟨l, a, ks, ns, rfl, hl, ha, hne, hin, hT, q⟩ := h
    refine ⟨_, PSs.nox (pss_one (ps_ret (Cl.pe_minlam (T := TT A) (x := "place") (y := "keys") (j := 0) (by rfl) T.g_min (pv 1) hr.depth hr.hd TB rfl (List.mem_singleton.mpr rfl) (fun p hp _ => by rw [List.mem_singleton.mp hp]; rfl)
      ⟨rfl, rfl, rfl, by decide +kernel, by decide +kernel, by decide +kernel⟩ (show (defScope s_least_child).names.lookup ("keys" : Str) = some NameKind.cell by decide +kernel) (by decide +kernel) rfl rfl (fun _ _ _ _ _ _ => rfl)))), ?_⟩
    exact ⟨_, rfl, a, l, ns, ks, rfl, ha, rfl, hl, hne, hin, hT, fun m H2 e t lm => q m H2 e t lm⟩
theorem b_lc (T : Tx K mg A) : L2.Binds K A.d_least_child ["keys", "children"] [] := T.F_least_child.binds fun _ _ _ _ _ _ us hl => match us, hl with | [_, _], _ => rfl

end
end Tw

set_option Elab.async false
set_option linter.all false
set_option maxRecDepth 100000
set_option maxHeartbeats 2000000
namespace Tw
open PySem PySem.Spec PyProof.Rows L2
section
variable {P : Program} {w : World} {K : PySem.W.Frag} {mg : Str → Option Value} {base : Heap} {A : Ad}
/-! going up -/
def RowIn (H : Hp) (a : Addr) (ns : List Int) : Prop := Sq H a (ns.map V.int) ∧ ns.length ≤ 12 ∧ (∀ n ∈ ns, -1000000000 ≤ n ∧ n ≤ 1000000000)
theorem RowIn.same {H H' : Hp} {a : Addr} {ns : List Int} (h : RowIn H a ns) (s : Same H H') : RowIn H' a ns := ⟨h.1.same s, h.2⟩
def wz (l : List Nat) : List Int := l.map fun i => ((i : Nat) : Int)
theorem vi_wz (l : List Nat) : vi l = (wz l).map V.int := vi_ints l
/-- two lists of one's own -/
structure Two (H : Hp) (D W : Addr) (xs ys : List V) (H' : Hp) : Prop where
  s : Same H H'
  d : H' D = some (.lst xs)
  w : H' W = some (.lst ys)
  nD : H D = Option.none
  nW : H W = Option.none
  ne : D ≠ W
theorem Two.setD {H H' : Hp} {D W : Addr} {xs ys zs : List V} (h : Two H D W xs ys H') : Two H D W zs ys (upd H' D (.lst zs)) :=
  ⟨fun b o e => by rw [upd_ne (ne_of_none e h.nD)]; exact h.s _ _ e, upd_same, by rw [upd_ne h.ne.symm]; exact h.w, h.nD, h.nW, h.ne⟩
theorem Two.setW {H H' : Hp} {D W : Addr} {xs ys zs : List V} (h : Two H D W xs ys H') : Two H D W xs zs (upd H' W (.lst zs)) :=
  ⟨fun b o e => by rw [upd_ne (ne_of_none e h.nW)]; exact h.s _ _ e, by rw [upd_ne h.ne]; exact h.d, upd_same, h.nD, h.nW, h.ne⟩
theorem Two.same {H H' H2 : Hp} {D W : Addr} {xs ys : List V} (h : Two H D W xs ys H') (s : Same H' H2) : Two H D W xs ys H2 := ⟨h.s.trans s, s _ _ h.d, s _ _ h.w, h.nD, h.nW, h.ne⟩
theorem key_at {ks : List Int} {p : Nat} (h : p < ks.length) : atI (ks.map V.int) (p : Int) = some (V.int (keyAt ks p)) := by
  have e : (ks.map V.int)[p]? = some (V.int (keyAt ks p)) := by
    unfold keyAt
    rw [List.getElem?_map, List.getD_eq_getElem?_getD, List.getElem?_eq_getElem h]
    rfl
  exact atI_nat e
theorem ixN_nat {n p : Nat} (h : p < n) : ixN n (p : Int) = some p := by
  unfold ixN
  rw [if_pos (by omega), if_pos (by omega), Int.toNat_natCast]
theorem last_at {xs : List V} {y : V} : atI (xs ++ [y]) (-1) = some y := by
  unfold atI ixN
  rw [if_neg (by omega), if_pos (by simp; omega), show ((-1 : Int) + ((xs ++ [y]).length : Nat)).toNat = xs.length by rw [List.length_append, List.length_singleton]; omega]
  simp
theorem set_int (ks : List Int) (p : Nat) (v : Int) : (ks.map V.int).set p (V.int v) = (ks.set p v).map V.int := (List.map_set ..).symm
theorem cut_last (xs : List V) (h : xs ≠ []) : cutV xs none (some (-1)) = xs.take (xs.length - 1) ∧ ¬ (HT.sIx xs.length 0 none = 0 ∧ HT.sIx xs.length xs.length (some (-1)) = xs.length) := by
  have hl := List.length_pos_iff.mpr h
  have e : HT.sIx xs.length xs.length (some (-1)) = xs.length - 1 := by
    unfold HT.sIx
    simp
    try omega
  have e0 : HT.sIx xs.length 0 none = 0 := rfl
  refine ⟨?_, fun z => ?_⟩
  · unfold cutV
    rw [e, e0]
    simp
  · rw [e] at z
    omega
theorem rev_at {U : List Nat} {i : Nat} (h : i + 1 < U.length) : ((U.reverse).take (U.length - 1))[(U.length - 1) - 1 - i]? = some (U.getD (i + 1) 0) := by
  rw [List.getElem?_take_of_lt (by omega), List.getElem?_reverse (by omega), List.getD_eq_getElem?_getD, show U.length - 1 - (U.length - 1 - 1 - i) = i + 1 by omega, List.getElem?_eq_getElem h]
  rfl
def resSift (C : Addr) (H : Hp) (q : Addr) (r : List Int × List Nat × Nat) : Prop := SiftAt C H q r.1 (wz r.2.1) r.2.2
theorem goUp_stay {w f : Nat} {ks : List Int} {p : Nat} {way : List Nat} {lk : Nat} (h0 : p ≠ 0) (h : ¬ keyAt ks p < keyAt ks ((p - 1) / w)) : goUp w (f + 1) ks p way lk = (ks, way, lk + 1) := by
  rw [goUp, if_neg h0, if_neg h]
theorem goUp_go {w f : Nat} {ks : List Int} {p : Nat} {way : List Nat} {lk : Nat} (h0 : p ≠ 0) (h : keyAt ks p < keyAt ks ((p - 1) / w)) : goUp w (f + 1) ks p way lk = goUp w f (swp ks p ((p - 1) / w)) ((p - 1) / w) (way ++ [(p - 1) / w]) (lk + 1) := by
  rw [goUp, if_neg h0, if_pos h]
theorem goUp_root {w f : Nat} {ks : List Int} {way : List Nat} {lk : Nat} : goUp w f ks 0 way lk = (ks, way, lk) := by
  cases f with
  | zero => rfl
  | succ f => rw [goUp, if_pos rfl]
def spUp (C : Addr) : Sp := fun vs H Q _ => ∃ (r p w : Nat) (ks : List Int), vs = [.ref r, .int p, .int w] ∧ (1 ≤ w ∧ w ≤ 4) ∧ RowIn H r ks ∧ p < ks.length ∧
  ∀ (H' : Hp) (q : Addr), Same H H' → resSift C H' q (goUp w 20 ks p [p] 0) → Q (.ref q) H'
theorem ok_up (T : Tx K mg A) : FnOk P w K mg base CX0 7 A.f_sift_up A.d_sift_up ["row", "place", "arms"] (spUp A.CS) := by
  obtain ⟨mo, ko⟩ := kb_of T
  refine T.F_sift_up.ok sc_sift_up (fun vs H Q E h => ?_) (fun cdv B outer s H vs Q E hr h => ?_)
  · obtain ⟨r, p, w, ks, rfl, _⟩ := h
    rfl
  · obtain ⟨r, p, w, ks, rfl, hw, hrow, hp, q⟩ := h
    have nd := sc_sift_up.nd
    refine ⟨_, PSs.nox (pss_cons (ps_set (i := 3) nd rfl (Or.inl rfl) (pe_cmethK (pe_glob (v := .ref A.C) (by rfl) T.mC (relR _)) T.cr T.cof (ok_of T) hr ko pass0 (pa_cons (pv 0) pa_nil) (pk_cons (pv 2) pk_nil)))
      (pss_cons (ps_set (i := 4) nd rfl (Or.inl rfl) (pe_slice sl_tup (pe_meth (pv 3) T.cT T.M_t_way_to (ok_way T) (hr.mono (by decide)) (b_way T) .nil pass0 (pa_cons (pv 1) pa_nil)) po_none (po_some (pe_un un_neg pe_int))))
      (pss_cons (ps_set (i := 5) nd rfl (Or.inl rfl) (pe_callTy call_list_of (by rfl) T.g_list (by decide +kernel) (pa_cons (pv 0) pa_nil)))
      (pss_cons (ps_set (i := 6) nd rfl (Or.inl rfl) (pe_lst (pa_cons (pv 1) pa_nil)))
      (pss_cons (ps_set (i := 7) nd rfl (Or.inl rfl) pe_int)
      (C8.pss_cut (ps_for PassesOwn.never rfl (pi_reversed (by rfl) T.g_reversed (pa_cons (pe_callTy call_list_of (by rfl) T.g_list (by decide +kernel) (pa_cons (pv 4) pa_nil)) pa_nil)) (pg_name (i := 8) nd rfl (Or.inl rfl)) (pss_cons (ps_set (i := 9) nd rfl (Or.inl rfl) (pe_ix ix_list (pv 6) (pe_un un_neg pe_int) (fun _ _ => rfl)))
      (pss_cons (ps_aug (i := 7) nd rfl (Or.inl rfl) pe_int ip_add)
      (pss_cons (ps_if (pt_cmpR op_ge (pe_ix ix_list (pv 5) (pv 9) (fun _ _ => rfl)) (pe_ix ix_list (pv 5) (pv 8) (fun _ _ => rfl)) (nomark _)) (pss_one ps_break) pss_nil)
      (pss_cons (ps_asg (pe_tup (pa_cons (pe_ix ix_list (pv 5) (pv 8) (fun _ _ => rfl)) (pa_cons (pe_ix ix_list (pv 5) (pv 9) (fun _ _ => rfl)) pa_nil))) (pg_tup rfl (pgs_cons (pg_sub (pv 5) (pv 9) set_list) (pgs_cons (pg_sub (pv 5) (pv 8) set_list) pgs_nil))))
      (pss_one (ps_expr (pe_bm PySem.F.plainAttrs_list PySem.F.slot_list_append PySem.F.type_list_append mt_append (pv 6) (pa_cons (pv 8) pa_nil)))))))))
      (pss_one (ps_ret (pe_make T.mkCS (ok_zi T) (hr.mono (by decide)) (by rfl) T.mCS (b_zi T) .nil pass0 (pa_cons (pv 5) (pa_cons (pv 6) (pa_cons (pv 7) pa_nil)))))))))))), ?_⟩
    refine ⟨rfl, _, rfl, _, rfl, rfl, rfl, r, w, ks, rfl, hw, hrow.1, hrow.2.1, hrow.2.2, fun H1 tr s1 p0 t1 => ?_⟩
    obtain ⟨dx, l, h1, h2⟩ := t1.ob
    have noW : (tf ks.length w l).lookup ("way_to" : Str) = none := tf_no _ _ _ (by decide +kernel) (by decide +kernel) (by decide +kernel)
    have hk12 := hrow.2.1
    obtain ⟨u0, u1, u2, u3⟩ := up_ends w (by omega) p (by omega) hw.1
    have uc := up_chain w (by omega) p (by omega) hw.1
    have ul := up_len w (by omega) p (by omega) hw.1
    refine ⟨_, rfl, tr, dx, _, rfl, h1, noW, _, rfl, tr, ks.length, w, p, rfl, t1, hp, fun H2 t0 s2 n2 e2 => ?_⟩
    have ew : wayL w p = (upL w p).reverse := rfl
    have wl : (vi (wayL w p)).length = (upL w p).length := by rw [vi_len, ew, List.length_reverse]
    obtain ⟨c1, c2⟩ := cut_last (vi (wayL w p)) (List.length_pos_iff.mp (by rw [wl]; omega))
    refine ⟨_, rfl, _, rfl, t0, _, rfl, SqT.of e2, c2, fun ab nab => ?_⟩
    rw [c1, wl]
    have s3 : Same H2 (upd H2 ab (.tup ((vi (wayL w p)).take ((upL w p).length - 1)))) := Same.up nab
    have e3 : upd H2 ab (.tup ((vi (wayL w p)).take ((upL w p).length - 1))) ab = some (.tup ((vi (wayL w p)).take ((upL w p).length - 1))) := upd_same
    generalize upd H2 ab (.tup ((vi (wayL w p)).take ((upL w p).length - 1))) = H3 at s3 e3
    have s13 : Same H H3 := s1.trans (s2.trans s3)
    refine ⟨_, rfl, r, _, rfl, (hrow.1.same s13).len, fun D nD => ?_⟩
    refine ⟨_, rfl, by show 1 ≤ sizeLine; decide, fun W nW => ?_⟩
    have nDW : D ≠ W := ne_of_none (upd_same (H := H3) (a := D)) nW
    have two0 : Two H3 D W (ks.map V.int) (vi [p]) (upd (upd H3 D (.lst (ks.map V.int))) W (.lst [V.int (p : Nat)])) :=
      ⟨(Same.up nD).trans (Same.up nW), by rw [upd_ne nDW]; exact upd_same, upd_same, nD, (Same.up nD).free nW, nDW⟩
    generalize upd (upd H3 D (.lst (ks.map V.int))) W (.lst [V.int (p : Nat)]) = H4 at two0
    -- the loop
    refine ⟨fun σ' H' => ∃ (x8 x9 : Option V), σ' = [some (.ref r), some (.int p), some (.int w), some (.ref tr), some (.ref ab), some (.ref D), some (.ref W), some (.int ((goUp w 20 ks p [p] 0).2.2 : Nat)), x8, x9] ∧ Two H3 D W ((goUp w 20 ks p [p] 0).1.map V.int) (vi (goUp w 20 ks p [p] 0).2.1) H', ?_, ?_⟩
    · refine ⟨_, rfl, ab, _, rfl, .inr (SqT.of (two0.s _ _ e3)), fun c nc => ?_⟩
      have two1 := two0.same (Same.up (o := .lst ((vi (wayL w p)).take ((upL w p).length - 1))) nc)
      have ec : upd H4 c (.lst ((vi (wayL w p)).take ((upL w p).length - 1))) c = some (.lst ((vi (wayL w p)).take ((upL w p).length - 1))) := upd_same
      have nDc : D ≠ c := ne_of_none two0.d nc
      have nWc : W ≠ c := ne_of_none two0.w nc
      generalize upd H4 c (.lst ((vi (wayL w p)).take ((upL w p).length - 1))) = H5 at two1 ec
      have zl : ((vi (wayL w p)).take ((upL w p).length - 1)).length = (upL w p).length - 1 := by rw [List.length_take, wl]; omega
      refine ⟨c, _, rfl, SqL.of ec, RT.for_Itv (fun i σ' H' => ∃ (ks' : List Int) (way : List Nat) (lk : Nat) (x8 x9 : Option V), σ' = [some (.ref r), some (.int p), some (.int w), some (.ref tr), some (.ref ab), some (.ref D), some (.ref W), some (.int lk), x8, x9] ∧ Two H3 D W (ks'.map V.int) (vi (way ++ [(upL w p).getD i 0])) H' ∧
        H' c = some (.lst ((vi (wayL w p)).take ((upL w p).length - 1))) ∧ i ≤ (upL w p).length - 1 ∧ ks'.length = ks.length ∧ way.length = i ∧ goUp w 20 ks p [p] 0 = goUp w (20 - i) ks' ((upL w p).getD i 0) (way ++ [(upL w p).getD i 0]) lk) ?_ ?_ ?_ ?_⟩
      · exact ⟨ks, [], 0, none, none, rfl, by rw [u2]; exact two1, ec, by omega, rfl, rfl, by rw [u2]; rfl⟩
      · rintro i σ' H' ⟨_, _, _, _, _, _, _, h, _⟩
        exact SqL.of h
      · rintro i x σ' H' hi hx ⟨ks', way, lk, x8, x9, rfl, two, hc, hi2, hkl, hwl, eg⟩
        rw [zl] at hi hx
        obtain ⟨n0, np⟩ := uc i hi
        have hx2 : x = V.int (((upL w p).getD (i + 1) 0 : Nat) : Int) := by
          have e := rev_at (U := upL w p) (i := i) (by omega)
          rw [← ew] at e
          unfold vi at hx
          rw [← List.map_take, List.getElem?_map, e] at hx
          exact (Option.some.inj hx).symm
        subst hx2
        have b1 := u3 i (by omega)
        have b2 := u3 (i + 1) (by omega)
        have hc1 : (upL w p).getD i 0 < ks'.length := by omega
        have hc2 : (upL w p).getD (i + 1) 0 < ks'.length := by omega
        have hlast : atI (vi (way ++ [(upL w p).getD i 0])) (-1) = some (V.int (((upL w p).getD i 0 : Nat) : Int)) := by
          rw [vi_app]
          exact last_at
        have hlen14 : (way ++ [(upL w p).getD i 0]).length ≤ 900 := by rw [List.length_append, List.length_singleton]; omega
        have ef : 20 - i = (20 - (i + 1)) + 1 := by omega
        generalize (upL w p).getD i 0 = cur at *
        generalize (upL w p).getD (i + 1) 0 = nx at *
        rw [ef] at eg
        refine ⟨_, rfl, _, rfl, W, _, _, _, rfl, rfl, SqL.of two.w, hlast, ?_⟩
        refine ⟨_, rfl, _, _, rfl, rfl, ?_⟩
        refine ⟨_, rfl, _, rfl, D, _, _, _, rfl, rfl, SqL.of two.d, key_at hc1, _, rfl, _, rfl, D, _, _, _, rfl, rfl, SqL.of two.d, key_at hc2, _, _, rfl, rfl, _, rfl, ?_⟩
        by_cases hlt : keyAt ks' cur < keyAt ks' nx
        · rw [decide_eq_false (show ¬ keyAt ks' cur ≥ keyAt ks' nx by omega)]
          refine iteF ?_
          rw [goUp_go n0 (by rw [np]; exact hlt), np] at eg
          refine ⟨_, rfl, _, rfl, D, _, _, _, rfl, rfl, SqL.of two.d, key_at hc2, _, rfl, _, rfl, D, _, _, _, rfl, rfl, SqL.of two.d, key_at hc1, by show 2 ≤ sizeLine; decide, fun t ht => ?_⟩
          have ntc : c ≠ t := ne_of_none hc ht
          have two2 := two.same (Same.up (o := .tup [V.int (keyAt ks' nx), V.int (keyAt ks' cur)]) ht)
          have hc3 := (Same.up (o := .tup [V.int (keyAt ks' nx), V.int (keyAt ks' cur)]) ht) _ _ hc
          have et : upd H' t (.tup [V.int (keyAt ks' nx), V.int (keyAt ks' cur)]) t = some (.tup [V.int (keyAt ks' nx), V.int (keyAt ks' cur)]) := upd_same
          generalize upd H' t (.tup [V.int (keyAt ks' nx), V.int (keyAt ks' cur)]) = G at two2 hc3 et
          refine ⟨t, _, rfl, SqT.of et, rfl, _, _, rfl, _, rfl, _, rfl, D, _, _, cur, rfl, rfl, two2.d, ixN_nat (by rw [List.length_map]; exact hc1), ?_⟩
          rw [set_int]
          have two3 : Two H3 D W ((ks'.set cur (keyAt ks' nx)).map V.int) (vi (way ++ [cur])) (upd G D (.lst ((ks'.set cur (keyAt ks' nx)).map V.int))) := two2.setD
          have hc4 : upd G D (.lst ((ks'.set cur (keyAt ks' nx)).map V.int)) c = some (.lst ((vi (wayL w p)).take ((upL w p).length - 1))) := by rw [upd_ne nDc.symm]; exact hc3
          generalize upd G D (.lst ((ks'.set cur (keyAt ks' nx)).map V.int)) = G2 at two3 hc4
          refine ⟨_, _, rfl, _, rfl, _, rfl, D, _, _, nx, rfl, rfl, two3.d, ixN_nat (by rw [List.length_map, List.length_set]; exact hc2), ?_⟩
          rw [set_int, show (ks'.set cur (keyAt ks' nx)).set nx (keyAt ks' cur) = swp ks' cur nx from rfl]
          have two4 : Two H3 D W ((swp ks' cur nx).map V.int) (vi (way ++ [cur])) (upd G2 D (.lst ((swp ks' cur nx).map V.int))) := two3.setD
          have hc5 : upd G2 D (.lst ((swp ks' cur nx).map V.int)) c = some (.lst ((vi (wayL w p)).take ((upL w p).length - 1))) := by rw [upd_ne nDc.symm]; exact hc4
          generalize upd G2 D (.lst ((swp ks' cur nx).map V.int)) = G3 at two4 hc5
          refine ⟨rfl, _, rfl, .inl ⟨rfl, _, SqL.of two4.w⟩, _, rfl, W, _, _, rfl, rfl, two4.w, small1000 (by rw [vi_len]; omega), ?_⟩
          have em : vi (way ++ [cur]) ++ [V.int (nx : Nat)] = vi ((way ++ [cur]) ++ [nx]) := by rw [vi_app (way ++ [cur])]; rfl
          rw [em]
          refine ⟨swp ks' cur nx, way ++ [cur], lk + 1, _, _, rfl, two4.setW, by rw [upd_ne nWc.symm]; exact hc5, by omega, by rw [swp_len]; exact hkl, by rw [List.length_append, hwl]; rfl, eg⟩
        · rw [decide_eq_true (show keyAt ks' cur ≥ keyAt ks' nx by omega)]
          refine iteT ?_
          rw [goUp_stay n0 (by rw [np]; exact hlt)] at eg
          rw [eg]
          exact ⟨_, _, rfl, two⟩
      · rintro σ' H' ⟨ks', way, lk, x8, x9, rfl, two, hc, hi2, hkl, hwl, eg⟩
        rw [zl, u0, goUp_root] at eg
        rw [zl, u0] at two
        rw [eg]
        exact ⟨x8, x9, rfl, two⟩
    · rintro σ' H' ⟨x8, x9, rfl, two⟩
      refine ⟨_, rfl, _, rfl, _, rfl, fun x dx2 nx ndx nex => ?_⟩
      have hD := (Same.up (o := .own x) ndx) _ _ two.d
      have hW := (Same.up (o := .own x) ndx) _ _ two.w
      have nx2 : upd H' dx2 (.own x) x = none := by rw [upd_ne nex.symm]; exact nx
      refine ⟨x, dx2, D, W, _, (goUp w 20 ks p [p] 0).1, wz (goUp w 20 ks p [p] 0).2.1, rfl, upd_same, .inl ((Same.up nx2) _ _ hD), .inl (by rw [← vi_wz]; exact (Same.up nx2) _ _ hW), fun H6 k6 st => ⟨rfl, q H6 x ?_ st⟩⟩
      exact s13.trans (two.s.trans (new_same nx ndx k6))
theorem kb_up (T : Tx K mg A) : ∃ mv : List Value, KBn K A.d_sift_up ["row", "place", "arms"] 2 ["arms"] (fun us ws => us ++ (mv ++ ws)) (fun vs zs => vs ++ zs) := by
  obtain ⟨mv, h⟩ := T.F_sift_up.kbinds0 (ps := ["row", "place", "arms"]) 2 ["arms"] [] (fun us mv ws => us ++ (mv ++ ws)) (by simp) (by simp) (fun r1 r2 r3 => r1.append (r2.append r3))
    (fun D doc pm an cdv ct us mv ws h1 h2 h3 => by
      match us, mv, ws, h1, h2, h3 with
      | [a, b], [], [c], _, _, _ => rfl)
  exact ⟨mv, h⟩
theorem bd_up (T : Tx K mg A) : ∃ ds, Vals [V.int 2] ds ∧ L2.Binds K A.d_sift_up ["row", "place", "arms"] ds := by
  refine T.F_sift_up.binds0 2 (by simp) rfl (fun D doc pm an cdv ct us ks h1 h2 => ?_)
  match us, ks, h1, h2 with
  | [a, b], [c], _, _ => exact ⟨_, _, _, _, _, _, rfl, rfl, rfl⟩

end
end Tw

set_option Elab.async false
set_option linter.all false
set_option maxRecDepth 100000
set_option maxHeartbeats 2000000
namespace Tw
open PySem PySem.Spec PyProof.Rows L2
section
variable {P : Program} {w : World} {K : PySem.W.Frag} {mg : Str → Option Value} {base : Heap} {A : Ad}
/-! going down -/
open LamX (ExtN Tabs TabS)
theorem extN_of {H H' : Hp} (s : Same H H') : ExtN H H' := fun b o e _ => s b o e
theorem tabs_upd {T : List (Addr × Str)} {H : Hp} {D : Addr} {xs : List V} {o : HO} (t : Tabs T H) (h : H D = some (.lst xs)) : Tabs T (upd H D o) := fun p hp => by
  obtain ⟨ps, h1, h2, h3⟩ := t p hp
  refine ⟨ps, by rw [upd_ne (ne_of h1 h (by intro z; cases z))]; exact h1, h2, fun pos cv hc => ?_⟩
  obtain ⟨c, e1, e2⟩ := h3 pos cv hc
  exact ⟨c, e1, by rw [upd_ne (ne_of e2 h (by intro z; unfold LamX.CodeO at z; cases z))]; exact e2⟩
/-- two lists of one's own, where code may be made -/
structure TwoE (T : List (Addr × Str)) (H : Hp) (D W : Addr) (xs ys : List V) (H' : Hp) : Prop where
  e : ExtN H H'
  t : Tabs T H'
  d : H' D = some (.lst xs)
  w : H' W = some (.lst ys)
  nD : H D = Option.none
  nW : H W = Option.none
  ne : D ≠ W
section
variable {T : List (Addr × Str)} {H H' H2 : Hp} {D W : Addr} {xs ys zs : List V}
theorem TwoE.setD (h : TwoE T H D W xs ys H') : TwoE T H D W zs ys (upd H' D (.lst zs)) :=
  ⟨fun b o e n => by rw [upd_ne (ne_of_none e h.nD)]; exact h.e _ _ e n, tabs_upd h.t h.d, upd_same, by rw [upd_ne h.ne.symm]; exact h.w, h.nD, h.nW, h.ne⟩
theorem TwoE.setW (h : TwoE T H D W xs ys H') : TwoE T H D W xs zs (upd H' W (.lst zs)) :=
  ⟨fun b o e n => by rw [upd_ne (ne_of_none e h.nW)]; exact h.e _ _ e n, tabs_upd h.t h.w, by rw [upd_ne h.ne]; exact h.d, upd_same, h.nD, h.nW, h.ne⟩
theorem TwoE.same (h : TwoE T H D W xs ys H') (s : Same H' H2) : TwoE T H D W xs ys H2 := ⟨h.e.trans (extN_of s), h.t.ext s, s _ _ h.d, s _ _ h.w, h.nD, h.nW, h.ne⟩
theorem TwoE.ext (h : TwoE T H D W xs ys H') (e : ExtN H' H2) (t : Tabs T H2) : TwoE T H D W xs ys H2 := ⟨h.e.trans e, t, e _ _ h.d (fun ps z => nomatch z), e _ _ h.w (fun ps z => nomatch z), h.nD, h.nW, h.ne⟩
end
theorem TreeAt.ext {C : Addr} {H H' : Hp} {p n w : Nat} (h : TreeAt C H p n w) (e : ExtN H H') : TreeAt C H' p n w :=
  ⟨let ⟨dx, t, a, b⟩ := h.ob; ⟨dx, t, e _ _ a (fun ps z => nomatch z), e _ _ b (fun ps z => nomatch z)⟩, h.hn, h.hw⟩
theorem Sq.ext {H H' : Hp} {a : Addr} {xs : List V} (h : Sq H a xs) (e : ExtN H H') : Sq H' a xs := h.elim (fun x => .inl (e _ _ x (fun ps z => nomatch z))) fun x => .inr (e _ _ x (fun ps z => nomatch z))
theorem RowIn.ext {H H' : Hp} {a : Addr} {ns : List Int} (h : RowIn H a ns) (e : ExtN H H') : RowIn H' a ns := ⟨h.1.ext e, h.2⟩
theorem wz_get (l : List Nat) (i : Nat) : (wz l).getD i 0 = ((l.getD i 0 : Nat) : Int) := by
  unfold wz
  rw [List.getD_eq_getElem?_getD, List.getD_eq_getElem?_getD, List.getElem?_map]
  cases l[i]? <;> rfl
theorem least_wz {ks : List Int} {l : List Nat} {m : Int} (h : Cl.LeastAt ks (wz l) m) : m = ((leastC ks l : Nat) : Int) := by
  obtain ⟨j, fl, e⟩ := h
  rw [wz_get] at e
  have hl : (wz l).length = l.length := by unfold wz; rw [List.length_map]
  have ef : (fun i => ks.getD ((wz l).getD i 0).toNat 0) = fun i => keyAt ks (l.getD i 0) := by
    funext i
    rw [wz_get, Int.toNat_natCast]
    rfl
  rw [hl, ef] at fl
  rw [e, least_of fl]
theorem goDown_leaf {n w f : Nat} {ks : List Int} {p : Nat} {way : List Nat} {lk : Nat} (h : kidL n w p = []) : goDown n w f ks p way lk = (ks, way, lk) := by
  cases f with
  | zero => rfl
  | succ f => rw [goDown, if_pos h]
theorem goDown_stay {n w f : Nat} {ks : List Int} {p : Nat} {way : List Nat} {lk : Nat} (h0 : kidL n w p ≠ []) (h : ¬ keyAt ks (leastC ks (kidL n w p)) < keyAt ks p) : goDown n w (f + 1) ks p way lk = (ks, way, lk + (kidL n w p).length) := by
  rw [goDown, if_neg h0, if_neg h]
theorem goDown_go {n w f : Nat} {ks : List Int} {p b : Nat} {way : List Nat} {lk : Nat} (h0 : kidL n w p ≠ []) (eb : leastC ks (kidL n w p) = b) (h : keyAt ks b < keyAt ks p) :
    goDown n w (f + 1) ks p way lk = goDown n w f (swp ks p b) b (way ++ [b]) (lk + (kidL n w p).length) := by
  rw [goDown, if_neg h0, eb, if_pos h]
def muW (σ : L2.St) (H : Hp) : Nat := match σ[6]? with
  | some (some (V.ref W)) => (match H W with | some (.lst xs) => 40 - xs.length | _ => 0)
  | _ => 0
theorem muW_at {σ : L2.St} {H : Hp} {W : Addr} {xs : List V} (h : σ[6]? = some (some (V.ref W))) (hw : H W = some (.lst xs)) : muW σ H = 40 - xs.length := by
  unfold muW
  rw [h]
  show (match H W with | some (.lst xs) => 40 - xs.length | _ => 0) = _
  rw [hw]
def spDown (A : Ad) : Sp := fun vs H Q _ => ∃ (r p w : Nat) (ks : List Int), vs = [.ref r, .int p, .int w] ∧ (1 ≤ w ∧ w ≤ 4) ∧ RowIn H r ks ∧ p < ks.length ∧ Tabs (TT A) H ∧
  ∀ (H' : Hp) (q : Addr), ExtN H H' → Tabs (TT A) H' → resSift A.CS H' q (goDown ks.length w 20 ks p [p] 0) → Q (.ref q) H'
theorem ok_down (T : Tx K mg A) (TB : LamX.TabB base mg A.c_least_child A.P_least_child) : FnOk P w K mg base CX0 7 A.f_sift_down A.d_sift_down ["row", "place", "arms"] (spDown A) := by
  obtain ⟨mo, ko⟩ := kb_of T
  refine T.F_sift_down.ok sc_sift_down (fun vs H Q E h => ?_) (fun cdv B outer s H vs Q E hr h => ?_)
  · obtain ⟨r, p, w, ks, rfl, _⟩ := h
    rfl
  · obtain ⟨r, p, w, ks, rfl, hw, hrow, hp, hT, q⟩ := h
    have nd := sc_sift_down.nd
    refine ⟨_, PSs.nox (pss_cons (ps_set (i := 3) nd rfl (Or.inl rfl) (pe_cmethK (pe_glob (v := .ref A.C) (by rfl) T.mC (relR _)) T.cr T.cof (ok_of T) hr ko pass0 (pa_cons (pv 0) pa_nil) (pk_cons (pv 2) pk_nil)))
      (pss_cons (ps_set (i := 4) nd rfl (Or.inl rfl) (pe_gi T.D_t___getitem__ (ok_gi T) (hr.mono (by decide)) (b_gi T) pass0 (pv 3) (pv 1)))
      (pss_cons (ps_set (i := 5) nd rfl (Or.inl rfl) (pe_callTy call_list_of (by rfl) T.g_list (by decide +kernel) (pa_cons (pv 0) pa_nil)))
      (pss_cons (ps_set (i := 6) nd rfl (Or.inl rfl) (pe_lst (pa_cons (pv 1) pa_nil)))
      (pss_cons (ps_set (i := 7) nd rfl (Or.inl rfl) pe_int)
      (C8.pss_cut (ps_while PassesOwn.never (pt_truth (pv 4) (fun _ => rfl)) (pss_cons (ps_set (i := 8) nd rfl (Or.inl rfl) (pe_ix ix_list (pv 6) (pe_un un_neg pe_int) (fun _ _ => rfl)))
      (pss_cons (ps_aug (i := 7) nd rfl (Or.inl rfl) (pe_callB call_len_seq (by rfl) T.g_len PySem.boot_len (pa_cons (pv 4) pa_nil)) ip_add)
      (pss_cons (ps_set (i := 9) nd rfl (Or.inl rfl) (pe_call (ok_lc T TB) (hr.mono (by decide)) (by rfl) T.m_least_child T.F_least_child.kp (b_lc T) .nil pass0 (pa_cons (pv 5) (pa_cons (pv 4) pa_nil))))
      (pss_cons (ps_if (pt_cmpR op_le (pe_ix ix_list (pv 5) (pv 8) (fun _ _ => rfl)) (pe_ix ix_list (pv 5) (pv 9) (fun _ _ => rfl)) (nomark _)) (pss_one ps_break) pss_nil)
      (pss_cons (ps_asg (pe_tup (pa_cons (pe_ix ix_list (pv 5) (pv 9) (fun _ _ => rfl)) (pa_cons (pe_ix ix_list (pv 5) (pv 8) (fun _ _ => rfl)) pa_nil))) (pg_tup rfl (pgs_cons (pg_sub (pv 5) (pv 8) set_list) (pgs_cons (pg_sub (pv 5) (pv 9) set_list) pgs_nil))))
      (pss_cons (ps_expr (pe_bm PySem.F.plainAttrs_list PySem.F.slot_list_append PySem.F.type_list_append mt_append (pv 6) (pa_cons (pv 9) pa_nil)))
      (pss_one (ps_set (i := 4) nd rfl (Or.inl rfl) (pe_gi T.D_t___getitem__ (ok_gi T) (hr.mono (by decide)) (b_gi T) pass0 (pv 3) (pv 9)))))))))))
      (pss_one (ps_ret (pe_make T.mkCS (ok_zi T) (hr.mono (by decide)) (by rfl) T.mCS (b_zi T) .nil pass0 (pa_cons (pv 5) (pa_cons (pv 6) (pa_cons (pv 7) pa_nil)))))))))))), ?_⟩
    refine ⟨rfl, _, rfl, _, rfl, rfl, rfl, r, w, ks, rfl, hw, hrow.1, hrow.2.1, hrow.2.2, fun H1 tr s1 p0 t1 => ?_⟩
    obtain ⟨dx, l, h1, h2⟩ := t1.ob
    have hk12 := hrow.2.1
    refine ⟨_, rfl, _, rfl, tr, dx, _, rfl, h1, tr, ks.length, w, p, rfl, t1, hp, fun H2 ch s2 hch => ?_⟩
    rw [kids_eq, kids_same ks.length (by omega) w (by omega) p hp hw.1] at hch
    have s12 : Same H H2 := s1.trans s2
    refine ⟨_, rfl, r, _, rfl, (hrow.1.same s12).len, fun D nD => ?_⟩
    refine ⟨_, rfl, by show 1 ≤ sizeLine; decide, fun W nW => ?_⟩
    have nDW : D ≠ W := ne_of_none (upd_same (H := H2) (a := D)) nW
    have s24 : Same H2 (upd (upd H2 D (.lst (ks.map V.int))) W (.lst [V.int (p : Nat)])) := (Same.up nD).trans (Same.up nW)
    have two0 : TwoE (TT A) H2 D W (ks.map V.int) (vi ([] ++ [p])) (upd (upd H2 D (.lst (ks.map V.int))) W (.lst [V.int (p : Nat)])) :=
      ⟨extN_of s24, (hT.ext s12).ext s24, by rw [upd_ne nDW]; exact upd_same, upd_same, nD, (Same.up nD).free nW, nDW⟩
    have hch4 := s24 _ _ hch
    generalize upd (upd H2 D (.lst (ks.map V.int))) W (.lst [V.int (p : Nat)]) = H4 at two0 hch4
    have t2 := t1.same s2
    generalize en : ks.length = n at *
    refine ⟨fun σ' H' => ∃ (x4 x8 x9 : Option V), σ' = [some (.ref r), some (.int p), some (.int w), some (.ref tr), x4, some (.ref D), some (.ref W), some (.int ((goDown n w 20 ks p [p] 0).2.2 : Nat)), x8, x9] ∧ TwoE (TT A) H2 D W ((goDown n w 20 ks p [p] 0).1.map V.int) (vi (goDown n w 20 ks p [p] 0).2.1) H', ?_, ?_⟩
    · refine while_by (fun σ' H' => ∃ (f : Nat) (ks' : List Int) (cur : Nat) (way : List Nat) (lk : Nat) (x8 x9 : Option V) (ch : Addr), σ' = [some (.ref r), some (.int p), some (.int w), some (.ref tr), some (.ref ch), some (.ref D), some (.ref W), some (.int lk), x8, x9] ∧
        TwoE (TT A) H2 D W (ks'.map V.int) (vi (way ++ [cur])) H' ∧ H' ch = some (.tup (vi (kidL n w cur))) ∧ cur < n ∧ ks'.length = n ∧ way.length + f = 20 ∧ n - cur < f ∧ goDown n w 20 ks p [p] 0 = goDown n w f ks' cur (way ++ [cur]) lk) muW ?_ ?_ ?_
      · exact ⟨20, ks, p, [], 0, none, none, ch, rfl, two0, hch4, hp, en, rfl, by omega, rfl⟩
      · rintro σ' H' ⟨f, ks', cur, way, lk, x8, x9, ch', rfl, two, hch', hcur, hkl, hwf, hf, eg⟩
        refine ⟨_, rfl, !(vi (kidL n w cur)).isEmpty, .inr (.inl ⟨_, SqT.of hch', rfl⟩), ?_⟩
        obtain ⟨f, rfl⟩ : ∃ f', f = f' + 1 := ⟨f - 1, by omega⟩
        have hlast : atI (vi (way ++ [cur])) (-1) = some (V.int ((cur : Nat) : Int)) := by
          rw [vi_app]
          exact last_at
        have hmu0 : muW [some (.ref r), some (.int p), some (.int w), some (.ref tr), some (.ref ch'), some (.ref D), some (.ref W), some (.int lk), x8, x9] H' = 40 - (way.length + 1) := by
          rw [muW_at rfl two.w, vi_len, List.length_append]
          rfl
        by_cases hk0 : kidL n w cur = []
        · rw [hk0]
          refine iteF ?_
          rw [goDown_leaf hk0] at eg
          rw [eg]
          exact ⟨_, _, _, rfl, two⟩
        · have e0 : (!(vi (kidL n w cur)).isEmpty) = true := by
            cases e : kidL n w cur with
            | nil => exact absurd e hk0
            | cons a b => rfl
          rw [e0]
          refine iteT ?_
          have hmem := least_mem (ks := ks') hk0
          have hk4 := kid_len n (by omega) w (by omega) cur hcur hw.1
          obtain ⟨hb1, hb2⟩ := kid_in hw.1 hmem
          refine ⟨_, rfl, _, rfl, W, _, _, _, rfl, rfl, SqL.of two.w, hlast, ?_⟩
          refine ⟨_, rfl, _, rfl, ch', _, rfl, .inr (SqT.of hch'), _, _, rfl, rfl, ?_⟩
          refine ⟨_, rfl, _, rfl, D, ch', ks', wz (kidL n w cur), rfl, SqL.of two.d, by rw [← vi_wz]; exact SqT.of hch', ?_, ?_, two.t, fun m H5 e5 t5 hm => ?_⟩
          · unfold wz
            rw [List.length_map]
            exact List.length_pos_iff.mpr hk0
          · intro z hz
            unfold wz at hz
            obtain ⟨j, hj, rfl⟩ := List.mem_map.mp hz
            have := kid_in hw.1 hj
            omega
          have em := least_wz hm
          subst em
          generalize ebb : leastC ks' (kidL n w cur) = b at *
          have two5 := two.ext e5 t5
          have hch5 := e5 _ _ hch' (fun ps z => nomatch z)
          have hc1 : cur < ks'.length := by omega
          have hc2 : b < ks'.length := by omega
          rw [vi_len]
          refine ⟨_, rfl, _, rfl, D, _, _, _, rfl, rfl, SqL.of two5.d, key_at hc1, _, rfl, _, rfl, D, _, _, _, rfl, rfl, SqL.of two5.d, key_at hc2, _, _, rfl, rfl, _, rfl, ?_⟩
          by_cases hlt : keyAt ks' b < keyAt ks' cur
          · rw [decide_eq_false (show ¬ keyAt ks' cur ≤ keyAt ks' b by omega)]
            refine iteF ?_
            rw [goDown_go hk0 ebb hlt] at eg
            refine ⟨_, rfl, _, rfl, D, _, _, _, rfl, rfl, SqL.of two5.d, key_at hc2, _, rfl, _, rfl, D, _, _, _, rfl, rfl, SqL.of two5.d, key_at hc1, by show 2 ≤ sizeLine; decide, fun t ht => ?_⟩
            have two2 := two5.same (Same.up (o := .tup [V.int (keyAt ks' b), V.int (keyAt ks' cur)]) ht)
            have et : upd H5 t (.tup [V.int (keyAt ks' b), V.int (keyAt ks' cur)]) t = some (.tup [V.int (keyAt ks' b), V.int (keyAt ks' cur)]) := upd_same
            generalize upd H5 t (.tup [V.int (keyAt ks' b), V.int (keyAt ks' cur)]) = G at two2 et
            refine ⟨t, _, rfl, SqT.of et, rfl, _, _, rfl, _, rfl, _, rfl, D, _, _, cur, rfl, rfl, two2.d, ixN_nat (by rw [List.length_map]; exact hc1), ?_⟩
            rw [set_int]
            have two3 : TwoE (TT A) H2 D W ((ks'.set cur (keyAt ks' b)).map V.int) (vi (way ++ [cur])) (upd G D (.lst ((ks'.set cur (keyAt ks' b)).map V.int))) := two2.setD
            generalize upd G D (.lst ((ks'.set cur (keyAt ks' b)).map V.int)) = G2 at two3
            refine ⟨_, _, rfl, _, rfl, _, rfl, D, _, _, b, rfl, rfl, two3.d, ixN_nat (by rw [List.length_map, List.length_set]; exact hc2), ?_⟩
            rw [set_int, show (ks'.set cur (keyAt ks' b)).set b (keyAt ks' cur) = swp ks' cur b from rfl]
            have two4 : TwoE (TT A) H2 D W ((swp ks' cur b).map V.int) (vi (way ++ [cur])) (upd G2 D (.lst ((swp ks' cur b).map V.int))) := two3.setD
            generalize upd G2 D (.lst ((swp ks' cur b).map V.int)) = G3 at two4
            refine ⟨rfl, _, rfl, .inl ⟨rfl, _, SqL.of two4.w⟩, _, rfl, W, _, _, rfl, rfl, two4.w, small1000 (by rw [vi_len, List.length_append, List.length_singleton]; omega), ?_⟩
            have em : vi (way ++ [cur]) ++ [V.int (b : Nat)] = vi ((way ++ [cur]) ++ [b]) := by rw [vi_app (way ++ [cur])]; rfl
            rw [em]
            have two6 : TwoE (TT A) H2 D W ((swp ks' cur b).map V.int) (vi ((way ++ [cur]) ++ [b])) (upd G3 W (.lst (vi ((way ++ [cur]) ++ [b])))) := two4.setW
            generalize upd G3 W (.lst (vi ((way ++ [cur]) ++ [b]))) = G4 at two6
            have t6 := t2.ext two6.e
            obtain ⟨dx6, l6, h16, h26⟩ := t6.ob
            refine ⟨_, rfl, _, rfl, tr, dx6, _, rfl, h16, tr, n, w, b, rfl, t6, hb2, fun H7 ch7 s7 hch7 => ?_⟩
            rw [kids_eq, kids_same n (by omega) w (by omega) b hb2 hw.1] at hch7
            have two7 := two6.same s7
            refine ⟨⟨f, swp ks' cur b, b, way ++ [cur], _, _, _, ch7, rfl, two7, hch7, hb2, by rw [swp_len]; exact hkl, by rw [List.length_append, List.length_singleton]; omega, by omega, eg⟩, ?_⟩
            rw [hmu0]
            show muW [some (.ref r), some (.int p), some (.int w), some (.ref tr), some (.ref ch7), some (.ref D), some (.ref W), _, _, _] H7 < _
            rw [muW_at rfl two7.w, vi_len, List.length_append, List.length_append, List.length_singleton, List.length_singleton]
            omega
          · rw [decide_eq_true (show keyAt ks' cur ≤ keyAt ks' b by omega)]
            refine iteT ?_
            rw [goDown_stay hk0 (by rw [ebb]; exact hlt)] at eg
            rw [eg]
            exact ⟨_, _, _, rfl, two5⟩
      · rintro σ' H1 Q1 Q2 mono ⟨v, hv, k, tv, z⟩
        exact ⟨v, hv, k, tv, mono _ _ z⟩
    · rintro σ' H' ⟨x4, x8, x9, rfl, two⟩
      refine ⟨_, rfl, _, rfl, _, rfl, fun x dx2 nx ndx nex => ?_⟩
      have hD := (Same.up (o := .own x) ndx) _ _ two.d
      have hW := (Same.up (o := .own x) ndx) _ _ two.w
      have nx2 : upd H' dx2 (.own x) x = none := by rw [upd_ne nex.symm]; exact nx
      refine ⟨x, dx2, D, W, _, (goDown n w 20 ks p [p] 0).1, wz (goDown n w 20 ks p [p] 0).2.1, rfl, upd_same, .inl ((Same.up nx2) _ _ hD), .inl (by rw [← vi_wz]; exact (Same.up nx2) _ _ hW), fun H6 k6 st => ⟨rfl, q H6 x ?_ ?_ st⟩⟩
      · exact (extN_of s12).trans (two.e.trans (extN_of (new_same nx ndx k6)))
      · exact two.t.ext (new_same nx ndx k6)
theorem kb_down (T : Tx K mg A) : ∃ mv : List Value, KBn K A.d_sift_down ["row", "place", "arms"] 2 ["arms"] (fun us ws => us ++ (mv ++ ws)) (fun vs zs => vs ++ zs) := by
  obtain ⟨mv, h⟩ := T.F_sift_down.kbinds0 (ps := ["row", "place", "arms"]) 2 ["arms"] [] (fun us mv ws => us ++ (mv ++ ws)) (by simp) (by simp) (fun r1 r2 r3 => r1.append (r2.append r3))
    (fun D doc pm an cdv ct us mv ws h1 h2 h3 => by
      match us, mv, ws, h1, h2, h3 with
      | [a, b], [], [c], _, _, _ => rfl)
  exact ⟨mv, h⟩
theorem bd_down (T : Tx K mg A) : ∃ ds, Vals [V.int 2] ds ∧ L2.Binds K A.d_sift_down ["row", "place", "arms"] ds := by
  refine T.F_sift_down.binds0 2 (by simp) rfl (fun D doc pm an cdv ct us ks h1 h2 => ?_)
  match us, ks, h1, h2 with
  | [a, b], [c], _, _ => exact ⟨_, _, _, _, _, _, rfl, rfl, rfl⟩

end
end Tw

set_option Elab.async false
set_option linter.all false
set_option maxRecDepth 100000
set_option maxHeartbeats 2000000
namespace Tw
open PySem PySem.Spec PyProof.Rows L2
section
variable {P : Program} {w : World} {K : PySem.W.Frag} {mg : Str → Option Value} {base : Heap} {A : Ad}
/-! the law's own sifts -/
def DueAt (H : Hp) (d : Addr) (r : List Int × List Nat × Nat) : Prop := ∃ t1 t2 : Addr, H d = some (.tup [.ref t1, .ref t2, .int (r.2.2 : Nat)]) ∧ H t1 = some (.tup (r.1.map V.int)) ∧ H t2 = some (.tup (vi r.2.1))
theorem DueAt.same {H H' : Hp} {d : Addr} {r : List Int × List Nat × Nat} (h : DueAt H d r) (s : Same H H') : DueAt H' d r := let ⟨t1, t2, a, b, c⟩ := h; ⟨t1, t2, s _ _ a, s _ _ b, s _ _ c⟩
def dueD (ks ws : List Int) (lk : Int) : PyData := .tuple [.tuple (ks.map PyData.int), .tuple (ws.map PyData.int), .int lk]
theorem ints_deep : ∀ ks : List Int, PyData.depthAll (ks.map PyData.int) ≤ 1
  | [] => by simp [PyData.depthAll]
  | k :: ks => by
    have := ints_deep ks
    simp only [List.map_cons, PyData.depthAll, PyData.depth]
    omega
theorem ints_lay : ∀ ks : List Int, PyData.canLayAll0 (ks.map PyData.int) = true
  | [] => rfl
  | k :: ks => by
    rw [List.map_cons, PyData.canLayAll0, ints_lay ks]
    rfl
theorem dueD_shaped (ks ws : List Int) (lk : Int) : SeqAt.shaped (dueD ks ws lk) = true := by
  have a := ints_deep ks
  have b := ints_deep ws
  unfold SeqAt.shaped dueD
  rw [Bool.and_eq_true]
  refine ⟨?_, decide_eq_true ?_⟩
  · simp only [PyData.canLay0, PyData.canLayAll0, ints_lay, Bool.and_true, Bool.true_and]
  · simp only [PyData.depth, PyData.depthAll]
    omega
theorem dueD_at (K : PySem.W.Frag) {H : Hp} {t t1 t2 : Addr} {ks ws : List Int} {lk : Int} (h : H t = some (.tup [.ref t1, .ref t2, .int lk])) (h1 : H t1 = some (.tup (ks.map V.int))) (h2 : H t2 = some (.tup (ws.map V.int))) : Dp K H (.ref t) (dueD ks ws lk) :=
  .tup (SqT.of h) (.cons (ints_tup K h1) (.cons (ints_tup K h2) (.cons (.int _) .nil)))
/-- (tuple(late), tuple(way), looks) -/
theorem due_out {H' G : Hp} {D W : Addr} {r : List Int × List Nat × Nat} {u1 u2 t : Addr} (n1 : H' u1 = none) (n2 : upd H' u1 (.tup (r.1.map V.int)) u2 = none) (nt : upd (upd H' u1 (.tup (r.1.map V.int))) u2 (.tup (vi r.2.1)) t = none) :
    Same H' (upd (upd (upd H' u1 (.tup (r.1.map V.int))) u2 (.tup (vi r.2.1))) t (.tup [.ref u1, .ref u2, .int (r.2.2 : Nat)])) ∧ DueAt (upd (upd (upd H' u1 (.tup (r.1.map V.int))) u2 (.tup (vi r.2.1))) t (.tup [.ref u1, .ref u2, .int (r.2.2 : Nat)])) t r :=
  ⟨(Same.up n1).trans ((Same.up n2).trans (Same.up nt)), u1, u2, upd_same, (Same.up nt) _ _ ((Same.up n2) _ _ upd_same), (Same.up nt) _ _ upd_same⟩
def spLUp : Sp := fun vs H Q _ => ∃ (r w p : Nat) (ks : List Int), vs = [.ref r, .int w, .int p] ∧ (1 ≤ w ∧ w ≤ 4) ∧ Sq H r (ks.map V.int) ∧ ks.length ≤ 12 ∧ p < ks.length ∧
  ∀ (H' : Hp) (d : Addr), Same H H' → DueAt H' d (goUp w 20 ks p [p] 0) → Q (.ref d) H'
theorem ok_lup (T : Tx K mg A) : FnOk P w K mg base CX0 3 A.f__law_up A.d__law_up ["row", "wide", "place"] spLUp := by
  refine T.F__law_up.ok sc__law_up (fun vs H Q E h => ?_) (fun cdv B outer s H vs Q E hr h => ?_)
  · obtain ⟨r, w, p, ks, rfl, _⟩ := h
    rfl
  · obtain ⟨r, w, p, ks, rfl, hw, hrow, hk12, hp, q⟩ := h
    have nd := sc__law_up.nd
    refine ⟨_, (pss_cons (ps_par3 (i := 3) (j := 4) (l := 5) rfl nd rfl rfl rfl (by decide) (by decide) (by decide) rfl rfl rfl (pa_cons (pe_callTy call_list_of (by rfl) T.g_list (by decide +kernel) (pa_cons (pv 0) pa_nil)) (pa_cons (pe_lst (pa_cons (pv 2) pa_nil)) (pa_cons pe_int pa_nil))) rfl)
      (C8.pss_cut (ps_for PassesOwn.never rfl (pi_range1 rfl T.g_range (pa_cons pe_int pa_nil)) (pg_name (i := 6) nd rfl (Or.inl rfl)) (pss_cons (ps_if (pt_cmpR op_eq (pe_ix ix_list (pv 4) (pe_un un_neg pe_int) (fun _ _ => rfl)) pe_int (nomark _)) (pss_one ps_break) pss_nil)
      (pss_cons (ps_par (i := 7) (j := 8) rfl nd rfl rfl (by decide) rfl rfl (pa_cons (pe_ix ix_list (pv 4) (pe_un un_neg pe_int) (fun _ _ => rfl)) (pa_cons (pe_call (ok_lpar T) (hr.mono (by decide)) (by rfl) T.m__law_parent T.F__law_parent.kp (b_lpar T) .nil pass0 (pa_cons (pv 1) (pa_cons (pe_ix ix_list (pv 4) (pe_un un_neg pe_int) (fun _ _ => rfl)) pa_nil))) pa_nil)) rfl)
      (pss_cons (ps_set (i := 5) nd rfl (Or.inl rfl) (pe_op op_add (pv 5) pe_int))
      (pss_cons (ps_if (pt_not (pt_cmpR op_lt (pe_ix ix_list (pv 3) (pv 7) (fun _ _ => rfl)) (pe_ix ix_list (pv 3) (pv 8) (fun _ _ => rfl)) (nomark _))) (pss_one ps_break) pss_nil)
      (pss_cons (ps_asg (pe_tup (pa_cons (pe_ix ix_list (pv 3) (pv 8) (fun _ _ => rfl)) (pa_cons (pe_ix ix_list (pv 3) (pv 7) (fun _ _ => rfl)) pa_nil))) (pg_tup rfl (pgs_cons (pg_sub (pv 3) (pv 7) set_list) (pgs_cons (pg_sub (pv 3) (pv 8) set_list) pgs_nil))))
      (pss_one (ps_expr (pe_bm PySem.F.plainAttrs_list PySem.F.slot_list_append PySem.F.type_list_append mt_append (pv 4) (pa_cons (pv 8) pa_nil))))))))))
      (pss_one (ps_ret (pe_tup (pa_cons (pe_callTy call_tuple_of (by rfl) T.g_tuple (by decide +kernel) (pa_cons (pv 3) pa_nil)) (pa_cons (pe_callTy call_tuple_of (by rfl) T.g_tuple (by decide +kernel) (pa_cons (pv 4) pa_nil)) (pa_cons (pv 5) pa_nil)))))))), ?_⟩
    refine ⟨_, rfl, r, _, rfl, hrow.len, fun D nD => ⟨_, rfl, by show 1 ≤ sizeLine; decide, fun W nW => ⟨_, _, _, rfl, ?_⟩⟩⟩
    have nDW : D ≠ W := ne_of_none (upd_same (H := H) (a := D)) nW
    have two0 : Two H D W (ks.map V.int) (vi ([] ++ [p])) (upd (upd H D (.lst (ks.map V.int))) W (.lst [V.int (p : Nat)])) :=
      ⟨(Same.up nD).trans (Same.up nW), by rw [upd_ne nDW]; exact upd_same, upd_same, nD, (Same.up nD).free nW, nDW⟩
    generalize upd (upd H D (.lst (ks.map V.int))) W (.lst [V.int (p : Nat)]) = H4 at two0
    refine ⟨fun σ' H' => ∃ (x6 x7 x8 : Option V), σ' = [some (.ref r), some (.int w), some (.int p), some (.ref D), some (.ref W), some (.int ((goUp w 20 ks p [p] 0).2.2 : Nat)), x6, x7, x8] ∧ Two H D W ((goUp w 20 ks p [p] 0).1.map V.int) (vi (goUp w 20 ks p [p] 0).2.1) H', ?_, ?_⟩
    · refine ⟨20, rfl, by decide, by decide, for_range (n := 20) (fun i σ' H' => ∃ (ks' : List Int) (cur : Nat) (way : List Nat) (lk : Nat) (x6 x7 x8 : Option V), σ' = [some (.ref r), some (.int w), some (.int p), some (.ref D), some (.ref W), some (.int lk), x6, x7, x8] ∧ Two H D W (ks'.map V.int) (vi (way ++ [cur])) H' ∧
        cur < ks.length ∧ ks'.length = ks.length ∧ way.length = i ∧ i ≤ 20 ∧ goUp w 20 ks p [p] 0 = goUp w (20 - i) ks' cur (way ++ [cur]) lk) ⟨ks, p, [], 0, none, none, none, rfl, two0, hp, rfl, rfl, by omega, rfl⟩ ?_ ?_⟩
      · rintro i σ' H' hi ⟨ks', cur, way, lk, x6, x7, x8, rfl, two, hcur, hkl, hwl, hi2, eg⟩
        have hlast : atI (vi (way ++ [cur])) (-1) = some (V.int ((cur : Nat) : Int)) := by
          rw [vi_app]
          exact last_at
        refine ⟨_, rfl, _, rfl, W, _, _, _, rfl, rfl, SqL.of two.w, hlast, rfl, _, rfl, ?_⟩
        by_cases h0 : cur = 0
        · rw [decide_eq_true (show V.int (cur : Nat) = V.int 0 by rw [h0]; rfl)]
          refine iteT ?_
          rw [h0, goUp_root] at eg
          rw [eg, ← h0]
          exact ⟨_, _, _, rfl, two⟩
        · rw [decide_eq_false (show ¬ V.int (cur : Nat) = V.int 0 by intro z; injection z with z; omega)]
          refine iteF ?_
          have hlt0 : (cur - 1) / w < cur := Nat.lt_of_le_of_lt (Nat.div_le_self _ _) (by omega)
          refine ⟨_, rfl, _, rfl, W, _, _, _, rfl, rfl, SqL.of two.w, hlast, _, rfl, _, rfl, _, rfl, W, _, _, _, rfl, rfl, SqL.of two.w, hlast, w, cur, rfl, hw, by omega, _, _, rfl, ?_⟩
          have two1 := two
          have hc1 : cur < ks'.length := by omega
          have ef : 20 - i = (20 - (i + 1)) + 1 := by omega
          rw [ef] at eg
          generalize enx : (cur - 1) / w = nx at *
          have hc2 : nx < ks'.length := by omega
          refine ⟨_, rfl, _, _, rfl, rfl, ?_⟩
          refine ⟨_, rfl, _, rfl, D, _, _, _, rfl, rfl, SqL.of two1.d, key_at hc1, _, rfl, _, rfl, D, _, _, _, rfl, rfl, SqL.of two1.d, key_at hc2, _, _, rfl, rfl, _, rfl, ?_⟩
          by_cases hlt : keyAt ks' cur < keyAt ks' nx
          · rw [decide_eq_true hlt]
            refine iteF ?_
            rw [goUp_go h0 (by rw [enx]; exact hlt), enx] at eg
            refine ⟨_, rfl, _, rfl, D, _, _, _, rfl, rfl, SqL.of two1.d, key_at hc2, _, rfl, _, rfl, D, _, _, _, rfl, rfl, SqL.of two1.d, key_at hc1, by show 2 ≤ sizeLine; decide, fun t ht => ?_⟩
            have two2 := two1.same (Same.up (o := .tup [V.int (keyAt ks' nx), V.int (keyAt ks' cur)]) ht)
            have et : upd H' t (.tup [V.int (keyAt ks' nx), V.int (keyAt ks' cur)]) t = some (.tup [V.int (keyAt ks' nx), V.int (keyAt ks' cur)]) := upd_same
            generalize upd H' t (.tup [V.int (keyAt ks' nx), V.int (keyAt ks' cur)]) = G at two2 et
            refine ⟨t, _, rfl, SqT.of et, rfl, _, _, rfl, _, rfl, _, rfl, D, _, _, cur, rfl, rfl, two2.d, ixN_nat (by rw [List.length_map]; exact hc1), ?_⟩
            rw [set_int]
            have two3 : Two H D W ((ks'.set cur (keyAt ks' nx)).map V.int) (vi (way ++ [cur])) (upd G D (.lst ((ks'.set cur (keyAt ks' nx)).map V.int))) := two2.setD
            generalize upd G D (.lst ((ks'.set cur (keyAt ks' nx)).map V.int)) = G2 at two3
            refine ⟨_, _, rfl, _, rfl, _, rfl, D, _, _, nx, rfl, rfl, two3.d, ixN_nat (by rw [List.length_map, List.length_set]; exact hc2), ?_⟩
            rw [set_int, show (ks'.set cur (keyAt ks' nx)).set nx (keyAt ks' cur) = swp ks' cur nx from rfl]
            have two4 : Two H D W ((swp ks' cur nx).map V.int) (vi (way ++ [cur])) (upd G2 D (.lst ((swp ks' cur nx).map V.int))) := two3.setD
            generalize upd G2 D (.lst ((swp ks' cur nx).map V.int)) = G3 at two4
            refine ⟨rfl, _, rfl, .inl ⟨rfl, _, SqL.of two4.w⟩, _, rfl, W, _, _, rfl, rfl, two4.w, small1000 (by rw [vi_len, List.length_append, List.length_singleton]; omega), ?_⟩
            have em : vi (way ++ [cur]) ++ [V.int (nx : Nat)] = vi ((way ++ [cur]) ++ [nx]) := by rw [vi_app (way ++ [cur])]; rfl
            rw [em]
            exact ⟨swp ks' cur nx, nx, way ++ [cur], lk + 1, _, _, _, rfl, two4.setW, by omega, by rw [swp_len]; exact hkl, by rw [List.length_append, hwl]; rfl, by omega, eg⟩
          · rw [decide_eq_false hlt]
            refine iteT ?_
            rw [goUp_stay h0 (by rw [enx]; exact hlt)] at eg
            rw [eg]
            exact ⟨_, _, _, rfl, two1⟩
      · rintro σ' H' ⟨ks', cur, way, lk, x6, x7, x8, rfl, two, hcur, hkl, hwl, hi2, eg⟩
        rw [show goUp w (20 - 20) ks' cur (way ++ [cur]) lk = (ks', way ++ [cur], lk) from rfl] at eg
        rw [eg]
        exact ⟨_, _, _, rfl, two⟩
    · rintro σ' H' ⟨x6, x7, x8, rfl, two⟩
      refine ⟨_, rfl, D, _, rfl, .inl ⟨SqL.of two.d, fun u1 n1 => ⟨_, rfl, W, _, rfl, .inl ⟨SqL.of ((Same.up n1) _ _ two.w), fun u2 n2 => ⟨_, rfl, by show 3 ≤ sizeLine; decide, fun t nt => ?_⟩⟩⟩⟩⟩
      have o := due_out (D := D) (W := W) (G := H') (r := goUp w 20 ks p [p] 0) n1 n2 nt
      exact q _ t (two.s.trans o.1) o.2
theorem b_lup (T : Tx K mg A) : L2.Binds K A.d__law_up ["row", "wide", "place"] [] := T.F__law_up.binds fun _ _ _ _ _ _ us hl => match us, hl with | [_, _, _], _ => rfl

end
end Tw

set_option Elab.async false
set_option linter.all false
set_option maxRecDepth 100000
set_option maxHeartbeats 2000000
namespace Tw
open PySem PySem.Spec PyProof.Rows L2
section
variable {P : Program} {w : World} {K : PySem.W.Frag} {mg : Str → Option Value} {base : Heap} {A : Ad}
theorem first_step {kf : Nat → Int} {i j : Nat} (h : Cl.FirstLeast kf (max i 1) j) : Cl.FirstLeast kf (i + 1) (if kf i < kf j then i else j) := by
  obtain ⟨a, b, c⟩ := h
  by_cases hi : i = 0
  · subst hi
    have ej : j = 0 := by omega
    subst ej
    rw [if_neg (by omega)]
    exact ⟨by omega, fun k hk => by rw [show k = 0 by omega]; omega, fun k hk => absurd hk (by omega)⟩
  · rw [show max i 1 = i by omega] at a b
    by_cases hl : kf i < kf j
    · rw [if_pos hl]
      refine ⟨by omega, fun k hk => ?_, fun k hk => ?_⟩
      · by_cases e : k = i
        · rw [e]; omega
        · have := b k (by omega); omega
      · have := b k (by omega); omega
    · rw [if_neg hl]
      refine ⟨by omega, fun k hk => ?_, c⟩
      by_cases e : k = i
      · rw [e]; omega
      · exact b k (by omega)
theorem dp_lst (K : PySem.W.Frag) {H : Hp} {p : Addr} {l : List Nat} (h : H p = some (.lst (vi l))) : Dp K H (.ref p) (.list (dl l)) := .lst (SqL.of h) (vi_dp _ _ _)
theorem dl_emp (l : List Nat) : PyData.eqv (.list (dl l)) (.list (dl [])) = decide (l = []) := by
  rw [dl_ints, show dl [] = [] from rfl, emp_eqv]
  cases l <;> simp
theorem vi_at {l : List Nat} {i : Nat} {x : V} (h : (vi l)[i]? = some x) : i < l.length ∧ x = V.int ((l.getD i 0 : Nat) : Int) := by
  unfold vi at h
  rw [List.getElem?_map] at h
  cases e : l[i]? with
  | none => rw [e] at h; cases h
  | some a =>
    rw [e] at h
    have hi := (List.getElem?_eq_some_iff.mp e).1
    refine ⟨hi, ?_⟩
    rw [List.getD_eq_getElem?_getD, e]
    exact (Option.some.inj h).symm
def spLDown : Sp := fun vs H Q _ => ∃ (r w p : Nat) (ks : List Int), vs = [.ref r, .int w, .int p] ∧ (1 ≤ w ∧ w ≤ 4) ∧ Sq H r (ks.map V.int) ∧ ks.length ≤ 12 ∧ p < ks.length ∧
  ∀ (H' : Hp) (d : Addr), Same H H' → DueAt H' d (goDown ks.length w 20 ks p [p] 0) → Q (.ref d) H'
theorem ok_ldown (T : Tx K mg A) : FnOk P w K mg base CX0 4 A.f__law_down A.d__law_down ["row", "wide", "place"] spLDown := by
  refine T.F__law_down.ok sc__law_down (fun vs H Q E h => ?_) (fun cdv B outer s H vs Q E hr h => ?_)
  · obtain ⟨r, w, p, ks, rfl, _⟩ := h
    rfl
  · obtain ⟨r, w, p, ks, rfl, hw, hrow, hk12, hp, q⟩ := h
    have nd := sc__law_down.nd
    have hu := hr.units
    refine ⟨_, (pss_cons (ps_par3 (i := 3) (j := 4) (l := 5) rfl nd rfl rfl rfl (by decide) (by decide) (by decide) rfl rfl rfl (pa_cons (pe_callTy call_list_of (by rfl) T.g_list (by decide +kernel) (pa_cons (pv 0) pa_nil)) (pa_cons (pe_lst (pa_cons (pv 2) pa_nil)) (pa_cons pe_int pa_nil))) rfl)
      (C8.pss_cut (ps_for PassesOwn.never rfl (pi_range1 rfl T.g_range (pa_cons pe_int pa_nil)) (pg_name (i := 6) nd rfl (Or.inl rfl)) (pss_cons (ps_set (i := 7) nd rfl (Or.inl rfl) (pe_call (ok_lkid T) (hr.mono (by decide)) (by rfl) T.m__law_children T.F__law_children.kp (b_lkid T) .nil pass0 (pa_cons (pv 1) (pa_cons (pe_callB call_len_seq (by rfl) T.g_len PySem.boot_len (pa_cons (pv 0) pa_nil)) (pa_cons (pe_ix ix_list (pv 4) (pe_un un_neg pe_int) (fun _ _ => rfl)) pa_nil)))))
      (pss_cons (ps_if (pt_cmpR (op_eqD hu) (pv 7) (pe_lst pa_nil) (nomark _)) (pss_one ps_break) pss_nil)
      (pss_cons (ps_par (i := 5) (j := 8) rfl nd rfl rfl (by decide) rfl rfl (pa_cons (pe_op op_add (pv 5) (pe_callB call_len_seq (by rfl) T.g_len PySem.boot_len (pa_cons (pv 7) pa_nil))) (pa_cons (pe_ix ix_list (pv 7) pe_int (fun _ _ => rfl)) pa_nil)) rfl)
      (C8.pss_cut (ps_for PassesOwn.never rfl (pi_list (pv 7)) (pg_name (i := 9) nd rfl (Or.inl rfl)) (pss_one (ps_if (pt_cmpR op_lt (pe_ix ix_list (pv 3) (pv 9) (fun _ _ => rfl)) (pe_ix ix_list (pv 3) (pv 8) (fun _ _ => rfl)) (nomark _)) (pss_one (ps_set (i := 8) nd rfl (Or.inl rfl) (pv 9))) pss_nil)))
      (pss_cons (ps_if (pt_not (pt_cmpR op_gt (pe_ix ix_list (pv 3) (pe_ix ix_list (pv 4) (pe_un un_neg pe_int) (fun _ _ => rfl)) (fun _ _ => rfl)) (pe_ix ix_list (pv 3) (pv 8) (fun _ _ => rfl)) (nomark _))) (pss_one ps_break) pss_nil)
      (pss_cons (ps_asg (pe_tup (pa_cons (pe_ix ix_list (pv 3) (pv 8) (fun _ _ => rfl)) (pa_cons (pe_ix ix_list (pv 3) (pe_ix ix_list (pv 4) (pe_un un_neg pe_int) (fun _ _ => rfl)) (fun _ _ => rfl)) pa_nil))) (pg_tup rfl (pgs_cons (pg_sub (pv 3) (pe_ix ix_list (pv 4) (pe_un un_neg pe_int) (fun _ _ => rfl)) set_list) (pgs_cons (pg_sub (pv 3) (pv 8) set_list) pgs_nil))))
      (pss_one (ps_expr (pe_bm PySem.F.plainAttrs_list PySem.F.slot_list_append PySem.F.type_list_append mt_append (pv 4) (pa_cons (pv 8) pa_nil)))))))))))
      (pss_one (ps_ret (pe_tup (pa_cons (pe_callTy call_tuple_of (by rfl) T.g_tuple (by decide +kernel) (pa_cons (pv 3) pa_nil)) (pa_cons (pe_callTy call_tuple_of (by rfl) T.g_tuple (by decide +kernel) (pa_cons (pv 4) pa_nil)) (pa_cons (pv 5) pa_nil)))))))), ?_⟩
    refine ⟨_, rfl, r, _, rfl, hrow.len, fun D nD => ⟨_, rfl, by show 1 ≤ sizeLine; decide, fun W nW => ⟨_, _, _, rfl, ?_⟩⟩⟩
    have nDW : D ≠ W := ne_of_none (upd_same (H := H) (a := D)) nW
    have two0 : Two H D W (ks.map V.int) (vi ([] ++ [p])) (upd (upd H D (.lst (ks.map V.int))) W (.lst [V.int (p : Nat)])) :=
      ⟨(Same.up nD).trans (Same.up nW), by rw [upd_ne nDW]; exact upd_same, upd_same, nD, (Same.up nD).free nW, nDW⟩
    generalize upd (upd H D (.lst (ks.map V.int))) W (.lst [V.int (p : Nat)]) = H4 at two0
    generalize en : ks.length = n at *
    refine ⟨fun σ' H' => ∃ (x6 x7 x8 x9 : Option V), σ' = [some (.ref r), some (.int w), some (.int p), some (.ref D), some (.ref W), some (.int ((goDown n w 20 ks p [p] 0).2.2 : Nat)), x6, x7, x8, x9] ∧ Two H D W ((goDown n w 20 ks p [p] 0).1.map V.int) (vi (goDown n w 20 ks p [p] 0).2.1) H', ?_, ?_⟩
    · refine ⟨20, rfl, by decide, by decide, for_range (n := 20) (fun i σ' H' => ∃ (ks' : List Int) (cur : Nat) (way : List Nat) (lk : Nat) (x6 x7 x8 x9 : Option V), σ' = [some (.ref r), some (.int w), some (.int p), some (.ref D), some (.ref W), some (.int lk), x6, x7, x8, x9] ∧ Two H D W (ks'.map V.int) (vi (way ++ [cur])) H' ∧
        cur < n ∧ ks'.length = n ∧ way.length = i ∧ i ≤ 20 ∧ goDown n w 20 ks p [p] 0 = goDown n w (20 - i) ks' cur (way ++ [cur]) lk) ⟨ks, p, [], 0, none, none, none, none, rfl, two0, hp, en, rfl, by omega, rfl⟩ ?_ ?_⟩
      · rintro i σ' H' hi ⟨ks', cur, way, lk, x6, x7, x8, x9, rfl, two, hcur, hkl, hwl, hi2, eg⟩
        have hlast : atI (vi (way ++ [cur])) (-1) = some (V.int ((cur : Nat) : Int)) := by
          rw [vi_app]
          exact last_at
        have ef : 20 - i = (20 - (i + 1)) + 1 := by omega
        rw [ef] at eg
        refine ⟨_, rfl, _, rfl, r, _, rfl, (hrow.same two.s).len, _, rfl, _, rfl, W, _, _, _, rfl, rfl, SqL.of two.w, hlast, w, n, cur, by rw [List.length_map, en]; rfl, hw, hk12, hcur, fun H5 b s5 b0 hb => ?_⟩
        have two5 := two.same s5
        refine ⟨_, rfl, Nat.zero_le _, fun e0 ne0 => ?_⟩
        have s6 : Same H5 (upd H5 e0 (.lst [])) := Same.up ne0
        have he0 : upd H5 e0 (.lst []) e0 = some (.lst (vi [])) := upd_same
        have two6 := two5.same s6
        have hb6 := s6 _ _ hb
        generalize upd H5 e0 (.lst []) = H6 at two6 hb6 he0
        refine ⟨_, _, dp_lst _ hb6, dp_lst _ he0, dl_shapedL _, dl_shapedL _, _, rfl, ?_⟩
        rw [dl_emp]
        by_cases hk0 : kidL n w cur = []
        · rw [decide_eq_true hk0]
          refine iteT ?_
          rw [goDown_leaf hk0] at eg
          rw [eg]
          exact ⟨_, _, _, _, rfl, two6⟩
        · rw [decide_eq_false hk0]
          refine iteF ?_
          have hpos := List.length_pos_iff.mpr hk0
          have hmem := least_mem (ks := ks') hk0
          have hk4 := kid_len n (by omega) w (by omega) cur hcur hw.1
          obtain ⟨hb1, hb2⟩ := kid_in hw.1 hmem
          have at0 : atI (vi (kidL n w cur)) 0 = some (V.int (((kidL n w cur).getD 0 0 : Nat) : Int)) := by
            show atI (vi (kidL n w cur)) ((0 : Nat) : Int) = _
            refine atI_nat ?_
            unfold vi
            rw [List.getElem?_map, List.getD_eq_getElem?_getD, List.getElem?_eq_getElem hpos]
            rfl
          refine ⟨_, rfl, _, rfl, b, _, rfl, .inl (SqL.of hb6), _, _, rfl, rfl, _, rfl, b, _, _, _, rfl, rfl, SqL.of hb6, at0, _, _, rfl, ?_⟩
          rw [vi_len]
          have nbD : b ≠ D := fun z => by rw [z, two5.d] at hb; have z2 := Option.some.inj hb; injection z2 with z2; rw [z] at b0; rw [two.d] at b0; cases b0
          refine ⟨fun σ' G => ∃ (x9 : Option V), σ' = [some (.ref r), some (.int w), some (.int p), some (.ref D), some (.ref W), some (.int ((lk + (kidL n w cur).length : Nat) : Int)), some (.int ((0 : Int) + (i : Nat))), some (.ref b), some (.int ((leastC ks' (kidL n w cur) : Nat) : Int)), x9] ∧ G = H6, ?_, ?_⟩
          · refine ⟨_, rfl, b, rfl, ⟨_, SqL.of hb6⟩, for_list (K := K) (a := b) (xs := vi (kidL n w cur)) (fun i2 σ' G => ∃ (j : Nat) (x9 : Option V), σ' = [some (.ref r), some (.int w), some (.int p), some (.ref D), some (.ref W), some (.int ((lk + (kidL n w cur).length : Nat) : Int)), some (.int ((0 : Int) + (i : Nat))), some (.ref b), some (.int (((kidL n w cur).getD j 0 : Nat) : Int)), x9] ∧ G = H6 ∧
              Cl.FirstLeast (fun m => keyAt ks' ((kidL n w cur).getD m 0)) (max i2 1) j) ⟨0, x9, rfl, rfl, ⟨by omega, fun k hk => by rw [show k = 0 by omega]; omega, fun k hk => absurd hk (by omega)⟩⟩ (fun i2 σ' G _ ⟨_, _, _, e, _⟩ => by rw [e]; exact SqL.of hb6) ?_ ?_⟩
            · rintro i2 x σ' G hx ⟨j, y9, rfl, rfl, fl⟩
              obtain ⟨hi2', rfl⟩ := vi_at hx
              have hmi : (kidL n w cur).getD i2 0 ∈ kidL n w cur := by rw [List.getD_eq_getElem?_getD, List.getElem?_eq_getElem hi2']; exact List.getElem_mem hi2'
              have hj : j < (kidL n w cur).length := by have := fl.1; omega
              have hmj : (kidL n w cur).getD j 0 ∈ kidL n w cur := by rw [List.getD_eq_getElem?_getD, List.getElem?_eq_getElem hj]; exact List.getElem_mem hj
              have q1 := (kid_in hw.1 hmi).2
              have q2 := (kid_in hw.1 hmj).2
              have st := first_step fl
              refine ⟨_, rfl, _, rfl, D, _, _, _, rfl, rfl, SqL.of two6.d, key_at (by omega), _, rfl, _, rfl, D, _, _, _, rfl, rfl, SqL.of two6.d, key_at (by omega), _, _, rfl, rfl, _, rfl, ?_⟩
              by_cases hl : keyAt ks' ((kidL n w cur).getD i2 0) < keyAt ks' ((kidL n w cur).getD j 0)
              · rw [decide_eq_true hl]
                refine iteT ⟨_, rfl, i2, _, rfl, rfl, ?_⟩
                rw [if_pos hl] at st
                rw [show max (i2 + 1) 1 = i2 + 1 by omega]
                exact st
              · rw [decide_eq_false hl]
                refine iteF ⟨j, _, rfl, rfl, ?_⟩
                rw [if_neg hl] at st
                rw [show max (i2 + 1) 1 = i2 + 1 by omega]
                exact st
            · rintro σ' G ⟨j, y9, rfl, rfl, fl⟩
              rw [vi_len, show max (kidL n w cur).length 1 = (kidL n w cur).length by omega] at fl
              rw [least_of fl]
              exact ⟨_, rfl, rfl⟩
          rintro σ' G ⟨y9, rfl, rfl⟩
          generalize ebb : leastC ks' (kidL n w cur) = c at *
          have hc1 : cur < ks'.length := by omega
          have hc2 : c < ks'.length := by omega
          refine ⟨_, rfl, _, rfl, _, rfl, W, _, _, _, rfl, rfl, SqL.of two6.w, hlast, D, _, _, _, rfl, rfl, SqL.of two6.d, key_at hc1, _, rfl, _, rfl, D, _, _, _, rfl, rfl, SqL.of two6.d, key_at hc2, _, _, rfl, rfl, _, rfl, ?_⟩
          by_cases hlt : keyAt ks' c < keyAt ks' cur
          · rw [decide_eq_true (show keyAt ks' cur > keyAt ks' c from hlt)]
            refine iteF ?_
            rw [goDown_go hk0 ebb hlt] at eg
            refine ⟨_, rfl, _, rfl, D, _, _, _, rfl, rfl, SqL.of two6.d, key_at hc2, _, rfl, _, rfl, _, rfl, W, _, _, _, rfl, rfl, SqL.of two6.w, hlast, D, _, _, _, rfl, rfl, SqL.of two6.d, key_at hc1, by show 2 ≤ sizeLine; decide, fun t ht => ?_⟩
            have two2 := two6.same (Same.up (o := .tup [V.int (keyAt ks' c), V.int (keyAt ks' cur)]) ht)
            have et : upd G t (.tup [V.int (keyAt ks' c), V.int (keyAt ks' cur)]) t = some (.tup [V.int (keyAt ks' c), V.int (keyAt ks' cur)]) := upd_same
            generalize upd G t (.tup [V.int (keyAt ks' c), V.int (keyAt ks' cur)]) = G1 at two2 et
            refine ⟨t, _, rfl, SqT.of et, rfl, _, _, rfl, _, rfl, _, rfl, _, rfl, W, _, _, _, rfl, rfl, SqL.of two2.w, hlast, D, _, _, cur, rfl, rfl, two2.d, ixN_nat (by rw [List.length_map]; exact hc1), ?_⟩
            rw [set_int]
            have two3 : Two H D W ((ks'.set cur (keyAt ks' c)).map V.int) (vi (way ++ [cur])) (upd G1 D (.lst ((ks'.set cur (keyAt ks' c)).map V.int))) := two2.setD
            generalize upd G1 D (.lst ((ks'.set cur (keyAt ks' c)).map V.int)) = G2 at two3
            refine ⟨_, _, rfl, _, rfl, _, rfl, D, _, _, c, rfl, rfl, two3.d, ixN_nat (by rw [List.length_map, List.length_set]; exact hc2), ?_⟩
            rw [set_int, show (ks'.set cur (keyAt ks' c)).set c (keyAt ks' cur) = swp ks' cur c from rfl]
            have two4 : Two H D W ((swp ks' cur c).map V.int) (vi (way ++ [cur])) (upd G2 D (.lst ((swp ks' cur c).map V.int))) := two3.setD
            generalize upd G2 D (.lst ((swp ks' cur c).map V.int)) = G3 at two4
            refine ⟨rfl, _, rfl, .inl ⟨rfl, _, SqL.of two4.w⟩, _, rfl, W, _, _, rfl, rfl, two4.w, small1000 (by rw [vi_len, List.length_append, List.length_singleton]; omega), ?_⟩
            have em : vi (way ++ [cur]) ++ [V.int (c : Nat)] = vi ((way ++ [cur]) ++ [c]) := by rw [vi_app (way ++ [cur])]; rfl
            rw [em]
            exact ⟨swp ks' cur c, c, way ++ [cur], _, _, _, _, _, rfl, two4.setW, by omega, by rw [swp_len]; exact hkl, by rw [List.length_append, hwl]; rfl, by omega, eg⟩
          · rw [decide_eq_false (show ¬ keyAt ks' cur > keyAt ks' c from hlt)]
            refine iteT ?_
            rw [goDown_stay hk0 (by rw [ebb]; exact hlt)] at eg
            rw [eg]
            exact ⟨_, _, _, _, rfl, two6⟩
      · rintro σ' H' ⟨ks', cur, way, lk, x6, x7, x8, x9, rfl, two, hcur, hkl, hwl, hi2, eg⟩
        rw [show goDown n w (20 - 20) ks' cur (way ++ [cur]) lk = (ks', way ++ [cur], lk) from rfl] at eg
        rw [eg]
        exact ⟨_, _, _, _, rfl, two⟩
    · rintro σ' H' ⟨x6, x7, x8, x9, rfl, two⟩
      refine ⟨_, rfl, D, _, rfl, .inl ⟨SqL.of two.d, fun u1 n1 => ⟨_, rfl, W, _, rfl, .inl ⟨SqL.of ((Same.up n1) _ _ two.w), fun u2 n2 => ⟨_, rfl, by show 3 ≤ sizeLine; decide, fun t nt => ?_⟩⟩⟩⟩⟩
      have o := due_out (D := D) (W := W) (G := H') (r := goDown n w 20 ks p [p] 0) n1 n2 nt
      exact q _ t (two.s.trans o.1) o.2
theorem b_ldown (T : Tx K mg A) : L2.Binds K A.d__law_down ["row", "wide", "place"] [] := T.F__law_down.binds fun _ _ _ _ _ _ us hl => match us, hl with | [_, _, _], _ => rfl

end
end Tw

set_option Elab.async false
set_option linter.all false
set_option maxRecDepth 100000
set_option maxHeartbeats 2000000
namespace Tw
open PySem PySem.Spec PyProof.Rows L2
section
variable {P : Program} {w : World} {K : PySem.W.Frag} {mg : Str → Option Value} {base : Heap} {A : Ad}
open LamX (ExtN Tabs TabS)
theorem tabs_but {T : List (Addr × Str)} {H H' : Hp} {d : Addr} {xs : List V} (t : Tabs T H) (h : H d = some (.lst xs)) (b : But d H H') : Tabs T H' := fun p hp => by
  obtain ⟨ps, h1, h2, h3⟩ := t p hp
  refine ⟨ps, b _ _ (ne_of h1 h (by intro z; cases z)) h1, h2, fun pos cv hc => ?_⟩
  obtain ⟨c, e1, e2⟩ := h3 pos cv hc
  exact ⟨c, e1, b _ _ (ne_of e2 h (by intro z; unfold LamX.CodeO at z; cases z)) e2⟩
theorem DrAt.ext {K : PySem.W.Frag} {H H' : Hp} {d a : Addr} {ns : List Int} {k : Nat} (h : DrAt K H d a ns k) (e : ExtN H H') : DrAt K H' d a ns k := ⟨e _ _ h.l (fun ps z => nomatch z), h.n, e.sqL h.s, h.h⟩
theorem zq_of {C : Addr} {H : Hp} {p p2 lk lk2 : Nat} {ks ws ks2 ws2 : List Int} {Q : VK} {E : XK} {b : Bool} (h1 : SiftAt C H p ks ws lk) (h2 : SiftAt C H p2 ks2 ws2 lk2) (hb : decide (ks = ks2 ∧ ws = ws2 ∧ lk = lk2) = b) (q : Q (.bl b) H) : spZq C [.ref p, .ref p2] H Q E :=
  ⟨p, lk, ks, ws, .ref p2, rfl, h1, .inl ⟨p2, lk2, ks2, ws2, rfl, h2, by rw [hb]; exact q⟩⟩
theorem sift_ins {C : Addr} {H : Hp} {p lk : Nat} {ks ws : List Int} (h : SiftAt C H p ks ws lk) : ∃ dx fs, H p = some (.ins C dx fs) := let ⟨dx, t1, t2, a, _, _⟩ := h; ⟨dx, _, a⟩
theorem new_up {C x dx : Addr} {H : Hp} (nx : H x = none) (ndx : H dx = none) (nex : dx ≠ x) : Same H (upd (upd H dx (.own x)) x (.ins C dx [])) :=
  (Same.up ndx).trans (Same.up (by rw [upd_ne nex.symm]; exact nx))
theorem app_ne {α : Type} {l : List α} {x : α} : ¬ l ++ [x] = l := fun h => by
  have := congrArg List.length h
  rw [List.length_append, List.length_singleton] at this
  omega
theorem map_one (l : List Int) (x : Int) : l.map V.int ++ [V.int x] = (l ++ [x]).map V.int := by rw [List.map_append]; rfl
theorem ix_sq {H : Hp} {a : Addr} {ns : List Int} {i : Nat} {Q : VK} (h : Sq H a (ns.map V.int)) (hi : i < ns.length) (q : Q (.int (ns.getD i 0)) H) : rIx K (.ref a) (.int i) H Q := by
  have e : (ns.map V.int)[i]? = some (V.int (ns.getD i 0)) := by
    rw [List.getElem?_map, List.getElem?_eq_getElem hi, List.getD_eq_getElem?_getD, List.getElem?_eq_getElem hi]
    rfl
  rcases h with h | h
  · exact .inl ⟨a, _, _, _, rfl, rfl, SqL.of h, atI_nat e, q⟩
  · exact .inr (.inl ⟨a, _, _, _, rfl, rfl, SqT.of h, atI_nat e, q⟩)
/-- the faults of a row -/
def faultB (ns : List Int) (w p : Nat) : Bool := decide (0 < p) && decide (ns.getD p 0 < ns.getD ((p - 1) / w) 0)
def faultL (ns : List Int) (w : Nat) : List Nat := (List.range ns.length).filter (faultB ns w)
theorem filt_pick (l : List Nat) (b : Nat → Bool) : vi (l.filter b) = l.filterMap fun j => if b j = true then some (V.int (j : Nat)) else none := by
  unfold vi
  induction l with
  | nil => rfl
  | cons a l ih =>
    by_cases h : b a = true
    · rw [List.filter_cons_of_pos h, List.map_cons, ih, List.filterMap_cons, if_pos h]
    · rw [List.filter_cons_of_neg h, ih, List.filterMap_cons, if_neg h]
def spFau : Sp := fun vs H Q _ => ∃ (a w : Nat) (ns : List Int), vs = [.ref a, .int w] ∧ (1 ≤ w ∧ w ≤ 4) ∧ RowIn H a ns ∧ ∀ H' q, Same H H' → H q = none → H' q = some (.lst (vi (faultL ns w))) → Q (.ref q) H'
theorem ok_fau (T : Tx K mg A) : FnOk P w K mg base CX0 7 A.f_faults A.d_faults ["row", "arms"] spFau := by
  obtain ⟨mo, ko⟩ := kb_of T
  refine T.F_faults.ok sc_faults (fun vs H Q E h => ?_) (fun cdv B outer s H vs Q E hr h => ?_)
  · obtain ⟨a, w, ns, rfl, _⟩ := h
    rfl
  · obtain ⟨a, w, ns, rfl, hw, hrow, q⟩ := h
    have nd := sc_faults.nd
    refine ⟨_, PSs.nox (pss_cons (ps_set (i := 2) nd rfl (Or.inr rfl) (pe_cmethK (pe_glob (v := .ref A.C) (by rfl) T.mC (relR _)) T.cr T.cof (ok_of T) hr ko pass0 (pa_cons (pv 0) pa_nil) (pk_cons (pv 1) pk_nil)))
      (pss_one (ps_ret (pe_lc (own := [("place", 3)]) (g := gName 3) rfl nd (pi_own T.D_t___iter__ (ok_iter T) (hr.mono (by decide)) (b_iter T) (pv 2)) (blkOk_by (own := [("place", 3)]) (N := ["row", "arms", "tree", "place"]) (sc := defScope s_faults) (by decide +kernel))
        (fun _ _ _ _ _ => pg_name (i := 3) nd rfl (Or.inl rfl))
        (fun _ _ _ _ _ => pts_one (PW.pt (pw_and (pt_cmpR op_gt (pv 3) pe_int (nomark _)) (pw_and1 (pt_cmpR op_lt (pe_ix (r := rIx K) ix_seq (pv 0) (pv 3) (fun _ _ => rfl))
          (pe_ix (r := rIx K) ix_seq (pv 0) (pe_meth (pv 2) T.cT T.M_t_parent (ok_par T) (hr.mono (by decide)) (b_par T) .nil pass0 (pa_cons (pv 3) pa_nil)) (fun _ _ => rfl)) (nomark _))))))
        (fun _ _ _ _ _ => pv 3))))), ?_⟩
    refine ⟨rfl, _, rfl, _, rfl, rfl, rfl, a, w, ns, rfl, hw, hrow.1, hrow.2.1, hrow.2.2, fun H1 p s1 p0 t1 => ?_⟩
    obtain ⟨dx, l, h1, h2⟩ := t1.ob
    have noP : (tf ns.length w l).lookup ("parent" : Str) = none := tf_no _ _ _ (by decide +kernel) (by decide +kernel) (by decide +kernel)
    have hlen := hrow.2.1
    refine ⟨_, rfl, p, dx, _, l, _, rfl, h1, tf_pl _ _ _, SqT.of h2, fun D hD => ?_⟩
    refine lc_it (walk_tup (xs := pl ns.length)) (PickI H1 D (List.range ns.length) fun j => if faultB ns w j = true then some (V.int (j : Nat)) else none) (pick_start hD) (fun k H' _ h => SqT.of (h.s _ _ h2)) ?_ ?_
    · rintro k x H2 H3 hk pk ⟨rfl, ex⟩
      obtain ⟨hk', rfl⟩ := map_at ex
      rw [List.getElem_range]
      have hk2 : k < ns.length := by rw [List.length_range] at hk'; exact hk'
      have hrow3 := (hrow.1.same s1).same pk.s
      refine ⟨rfl, _, rfl, _, _, rfl, rfl, _, rfl, ?_⟩
      by_cases h0 : 0 < k
      · rw [decide_eq_true (show (0 : Int) < (k : Nat) by omega)]
        have ep : parV w k = V.int ((k - 1) / w : Nat) := by unfold parV; rw [if_neg (by omega)]
        have hlt : (k - 1) / w < k := Nat.lt_of_le_of_lt (Nat.div_le_self _ _) (by omega)
        refine iteT ⟨_, rfl, _, rfl, ix_sq hrow3 hk2 ⟨_, rfl, _, rfl, p, dx, _, rfl, pk.s _ _ h1, noP, _, rfl, p, ns.length, w, k, rfl, t1.same pk.s, hk2, ?_⟩⟩
        rw [ep]
        refine ix_sq hrow3 (by omega) ⟨_, _, rfl, rfl, _, rfl, ?_⟩
        have ef : faultB ns w k = decide (ns.getD k 0 < ns.getD ((k - 1) / w) 0) := by unfold faultB; rw [decide_eq_true h0, Bool.true_and]
        by_cases hf : ns.getD k 0 < ns.getD ((k - 1) / w) 0
        · rw [decide_eq_true hf] at ef ⊢
          exact iteT ⟨_, rfl, pick_yes hk' (by rw [List.length_range]; omega) (by rw [List.getElem_range, ef]; rfl) (Same.refl _) pk⟩
        · rw [decide_eq_false hf] at ef ⊢
          exact iteF (pick_no hk' (by rw [List.getElem_range, ef]; rfl) (Same.refl _) pk)
      · rw [decide_eq_false (show ¬ (0 : Int) < (k : Nat) by omega)]
        have ef : faultB ns w k = false := by unfold faultB; rw [decide_eq_false h0, Bool.false_and]
        exact iteF (iteF (pick_no hk' (by rw [List.getElem_range, ef]; rfl) (Same.refl _) pk))
    · intro H2 pk
      have ac := pick_end (by rw [pl_len, List.length_range]) pk
      refine q _ D (s1.trans ac.s) (s1.free hD) ?_
      rw [ac.a]
      unfold faultL
      rw [filt_pick]
theorem kb_fau (T : Tx K mg A) : ∃ mv : List Value, KBn K A.d_faults ["row", "arms"] 1 ["arms"] (fun us ws => us ++ (mv ++ ws)) (fun vs zs => vs ++ zs) := by
  obtain ⟨mv, h⟩ := T.F_faults.kbinds0 (ps := ["row", "arms"]) 1 ["arms"] [] (fun us mv ws => us ++ (mv ++ ws)) (by simp) (by simp) (fun r1 r2 r3 => r1.append (r2.append r3))
    (fun D doc pm an cdv ct us mv ws h1 h2 h3 => by
      match us, mv, ws, h1, h2, h3 with
      | [a], [], [c], _, _, _ => rfl)
  exact ⟨mv, h⟩
theorem bd_fau (T : Tx K mg A) : ∃ ds, Vals [V.int 2] ds ∧ L2.Binds K A.d_faults ["row", "arms"] ds := by
  refine T.F_faults.binds0 1 (by simp) rfl (fun D doc pm an cdv ct us ks h1 h2 => ?_)
  match us, ks, h1, h2 with
  | [a], [c], _, _ => exact ⟨_, _, _, _, _, _, rfl, rfl, rfl⟩
theorem self_sub : ∀ w, w < 5 → ∀ i, i < 13 → 1 ≤ w → i ∈ wayL w i := by decide +kernel
def lheapB (ns : List Int) (w p : Nat) : Bool := (wayL w p).any fun q => decide (ns.getD p 0 < ns.getD q 0)
def lheap (ns : List Int) (w : Nat) : Bool := (List.range ns.length).all fun p => !lheapB ns w p
theorem way_rec (w p : Nat) (hw : 1 ≤ w ∧ w ≤ 4) (hp : p ≤ 12) (h0 : 0 < p) : wayL w p = wayL w ((p - 1) / w) ++ [p] := by
  unfold wayL
  have e := up_eq w (by omega) p (by omega) hw.1
  rw [if_neg (by omega)] at e
  rw [e, List.reverse_cons]
theorem way_zero : ∀ w, w < 5 → 1 ≤ w → wayL w 0 = [0] := by decide +kernel
theorem no_fault {ns : List Int} {w : Nat} (hw : 1 ≤ w ∧ w ≤ 4) (hn : ns.length ≤ 12) (h : faultL ns w = []) : ∀ p, p < ns.length → ∀ q ∈ wayL w p, ns.getD q 0 ≤ ns.getD p 0 := by
  have h1 : ∀ p, p < ns.length → 0 < p → ns.getD ((p - 1) / w) 0 ≤ ns.getD p 0 := fun p hp h0 => by
    refine Int.not_lt.mp fun z => ?_
    have m : p ∈ faultL ns w := by
      unfold faultL
      refine List.mem_filter.mpr ⟨List.mem_range.mpr hp, ?_⟩
      unfold faultB
      rw [decide_eq_true h0, decide_eq_true z]
      rfl
    rw [h] at m
    cases m
  intro p
  induction p using Nat.strongRecOn with
  | _ p ih =>
    intro hp q hq
    by_cases h0 : 0 < p
    · have hlt : (p - 1) / w < p := Nat.lt_of_le_of_lt (Nat.div_le_self _ _) (by omega)
      rw [way_rec w p hw (by omega) h0] at hq
      rcases List.mem_append.mp hq with hq | hq
      · exact Int.le_trans (ih _ hlt (by omega) q hq) (h1 p hp h0)
      · rw [List.mem_singleton.mp hq]
        exact Int.le_refl _
    · obtain rfl : p = 0 := by omega
      rw [way_zero w (by omega) hw.1] at hq
      rw [List.mem_singleton.mp hq]
      exact Int.le_refl _
theorem par_way (w p : Nat) (hw : 1 ≤ w ∧ w ≤ 4) (hp : p ≤ 12) (h0 : 0 < p) : (p - 1) / w ∈ wayL w p := by
  rw [way_rec w p hw hp h0]
  have h := self_sub w (by omega) ((p - 1) / w) (by have := Nat.div_le_self (p - 1) w; omega) hw.1
  exact List.mem_append_left _ h
theorem lheap_fault (ns : List Int) (w : Nat) (hw : 1 ≤ w ∧ w ≤ 4) (hn : ns.length ≤ 12) : lheap ns w = decide (faultL ns w = []) := by
  by_cases h : faultL ns w = []
  · rw [decide_eq_true h]
    unfold lheap
    refine List.all_eq_true.mpr fun p hp => ?_
    have hp := List.mem_range.mp hp
    have z : lheapB ns w p = false := by
      unfold lheapB
      refine List.any_eq_false.mpr fun q hq => ?_
      have := no_fault hw hn h p hp q hq
      rw [decide_eq_false (by omega)]
      exact Bool.false_ne_true
    rw [z]
    rfl
  · rw [decide_eq_false h]
    obtain ⟨p, hp⟩ := List.exists_mem_of_ne_nil _ h
    unfold faultL at hp
    obtain ⟨h1, h2⟩ := List.mem_filter.mp hp
    unfold faultB at h2
    obtain ⟨h3, h4⟩ := Bool.and_eq_true_iff.mp h2
    have h3 := of_decide_eq_true h3
    unfold lheap
    refine List.all_eq_false.mpr ⟨p, h1, ?_⟩
    have hp12 : p ≤ 12 := by have := List.mem_range.mp h1; omega
    have z : lheapB ns w p = true := by
      unfold lheapB
      exact List.any_eq_true.mpr ⟨_, par_way w p hw hp12 h3, h4⟩
    rw [z]
    exact Bool.false_ne_true
theorem way_le : ∀ w, w < 5 → ∀ p, p < 13 → 1 ≤ w → ∀ q ∈ wayL w p, q ≤ p := by decide +kernel
def spLIs : Sp := fun vs H Q _ => ∃ (a w : Nat) (ns : List Int), vs = [.ref a, .int w] ∧ (1 ≤ w ∧ w ≤ 4) ∧ RowIn H a ns ∧ ∀ H', Same H H' → Q (.bl (lheap ns w)) H'
theorem ok_lis (T : Tx K mg A) : FnOk P w K mg base CX0 4 A.f__law_is_heap A.d__law_is_heap ["row", "wide"] spLIs := by
  refine T.F__law_is_heap.ok sc__law_is_heap (fun vs H Q E h => ?_) (fun cdv B outer s H vs Q E hr h => ?_)
  · obtain ⟨a, w, ns, rfl, _⟩ := h
    rfl
  · obtain ⟨a, w, ns, rfl, hw, hrow, q⟩ := h
    have nd := sc__law_is_heap.nd
    have hlen := hrow.2.1
    refine ⟨_, pss_cons (ps_for PassesOwn.never rfl (pi_range1 rfl T.g_range (pa_cons (pe_callB call_len_seq (by rfl) T.g_len PySem.boot_len (pa_cons (pv 0) pa_nil)) pa_nil)) (pg_name (i := 2) nd rfl (Or.inr rfl))
      (pss_one (ps_if (pt_val (pe_callB (cr_any rfl) (by rfl) T.g_any (by decide +kernel) (pa_cons
        (pe_lc (own := [("above", 3)]) (g := gName 3) (tt := tYes) rfl nd (pi_list (pe_call (ok_lway T) hr (by rfl) T.m__law_way T.F__law_way.kp (b_lway T) .nil pass0 (pa_cons (pv 1) (pa_cons (pv 2) pa_nil))))
          (blkOk_by (own := [("above", 3)]) (N := ["row", "wide", "place", "above"]) (sc := defScope s__law_is_heap) (by decide +kernel)) (fun _ _ _ _ _ => pg_name (i := 3) nd rfl (Or.inl rfl)) (fun _ _ _ _ _ => pts_nil)
          (fun _ _ _ _ _ => pe_cmpR op_lt (pe_ix (r := rIx K) ix_seq (pv 0) (pv 2) (fun _ _ => rfl)) (pe_ix (r := rIx K) ix_seq (pv 0) (pv 3) (fun _ _ => rfl)) (nomark _))) pa_nil))) (pss_one (ps_ret pe_bl)) pss_nil)))
      (pss_one (ps_ret pe_bl)), ?_⟩
    refine ⟨_, rfl, a, _, rfl, hrow.1.len, _, rfl, by omega, by rw [List.length_map]; omega, ?_⟩
    rw [Int.toNat_natCast, List.length_map]
    refine for_range (n := ns.length) (fun k σ H' => ∃ z u, σ = [some (.ref a), some (.int w), z, u] ∧ Same H H' ∧ ∀ p, p < k → lheapB ns w p = false) ⟨none, none, rfl, Same.refl _, fun p hp => (nomatch hp)⟩ ?_ ?_
    · rintro k σ H' hk ⟨z, u, rfl, s1, hno⟩
      have z0 : V.int ((0 : Int) + (k : Nat)) = V.int (k : Nat) := by rw [Int.zero_add]
      rw [z0]
      refine ⟨_, rfl, _, rfl, w, k, rfl, hw, by omega, fun H2 b s2 b0 hb => ?_⟩
      have hwl := way_len w (by omega) k (by omega) hw.1
      refine ⟨b, rfl, ⟨_, SqL.of hb⟩, fun D hD => ?_⟩
      refine lc_it (walk_list (xs := vi (wayL w k))) (PickI H2 D (wayL w k) fun q => some (V.bl (decide (ns.getD k 0 < ns.getD q 0)))) (pick_start hD) (fun k H' _ h => SqL.of (h.s _ _ hb)) ?_ ?_
      · rintro j x H5 H6 hj pk ⟨rfl, ex⟩
        obtain ⟨hj', rfl⟩ := map_at ex
        have hq : (wayL w k)[j] < ns.length := by
          have h := way_le w (by omega) k (by omega) hw.1 _ (List.getElem_mem hj')
          omega
        have hr6 := (hrow.1.same s1).same (s2.trans pk.s)
        refine ⟨rfl, ?_⟩
        refine iteT (B := PickI H2 D (wayL w k) (fun q => some (V.bl (decide (ns.getD k 0 < ns.getD q 0)))) (j + 1) H6) ?_
        exact ⟨_, rfl, _, rfl, ix_sq hr6 hk ⟨_, rfl, _, rfl, ix_sq hr6 hq ⟨_, _, rfl, rfl, pick_yes hj' (by omega) rfl (Same.refl _) pk⟩⟩⟩
      · intro H5 pk
        have ac := pick_end (vi_len _) pk
        have e : ((wayL w k).filterMap fun q => some (V.bl (decide (ns.getD k 0 < ns.getD q 0)))) = ((wayL w k).map fun q => decide (ns.getD k 0 < ns.getD q 0)).map V.bl := by
          rw [List.filterMap_eq_map', List.map_map]
          rfl
        rw [e] at ac
        refine ⟨D, _, rfl, SqL.of ac.a, _, rfl, ?_⟩
        have ea : ((wayL w k).map fun q => decide (ns.getD k 0 < ns.getD q 0)).any id = lheapB ns w k := by
          rw [List.any_map]
          rfl
        rw [ea]
        have s5 := s1.trans (s2.trans ac.s)
        cases hb2 : lheapB ns w k with
        | true =>
          refine iteT ?_
          have el : lheap ns w = false := by
            unfold lheap
            refine List.all_eq_false.mpr ⟨k, List.mem_range.mpr hk, ?_⟩
            rw [hb2]
            exact Bool.false_ne_true
          rw [el] at q
          exact q _ s5
        | false =>
          refine iteF ⟨_, _, rfl, s5, fun p hp => ?_⟩
          by_cases e2 : p = k
          · rw [e2, hb2]
          · exact hno p (by omega)
    · rintro σ H' ⟨z, u, rfl, s1, hno⟩
      have el : lheap ns w = true := by
        unfold lheap
        refine List.all_eq_true.mpr fun p hp => ?_
        rw [hno p (List.mem_range.mp hp)]
        rfl
      rw [el] at q
      exact q _ s1
theorem b_lis (T : Tx K mg A) : L2.Binds K A.d__law_is_heap ["row", "wide"] [] := T.F__law_is_heap.binds fun _ _ _ _ _ _ us hl => match us, hl with | [_, _], _ => rfl

end
end Tw

set_option Elab.async false
set_option linter.all false
set_option maxRecDepth 100000
set_option maxHeartbeats 2000000
namespace Tw
open PySem PySem.Spec PyProof.Rows L2
section
variable {P : Program} {w : World} {K : PySem.W.Frag} {mg : Str → Option Value} {base : Heap} {A : Ad}
/-! what going down does to a row -/
theorem mem_kid {n w p c : Nat} : c ∈ kidL n w p ↔ 1 ≤ c ∧ c < n ∧ (c - 1) / w = p := by
  unfold kidL
  rw [List.mem_map]
  constructor
  · rintro ⟨k, hk, rfl⟩
    obtain ⟨h1, h2⟩ := List.mem_filter.mp hk
    have h1 := List.mem_range.mp h1
    have h2 := of_decide_eq_true h2
    exact ⟨by omega, by omega, by rw [Nat.add_sub_cancel]; exact h2⟩
  · rintro ⟨h1, h2, h3⟩
    refine ⟨c - 1, List.mem_filter.mpr ⟨List.mem_range.mpr (by omega), decide_eq_true h3⟩, by omega⟩
theorem least_le {ks : List Int} {l : List Nat} {c : Nat} (h : c ∈ l) : keyAt ks (leastC ks l) ≤ keyAt ks c := by
  have hne : l ≠ [] := List.ne_nil_of_mem h
  obtain ⟨n, en⟩ : ∃ n, l.length = n + 1 := ⟨l.length - 1, by have := List.length_pos_iff.mpr hne; omega⟩
  have b := Cl.best_is (fun i => keyAt ks (l.getD i 0)) n
  rw [← en] at b
  obtain ⟨i, hi, e⟩ := List.mem_iff_getElem.mp h
  have this : keyAt ks (l.getD (PySem.argBest (fun i j => decide (keyAt ks (l.getD i 0) < keyAt ks (l.getD j 0))) n) 0) ≤ keyAt ks (l.getD i 0) := b.2.1 i hi
  rw [least_of b] at this
  have e2 : l.getD i 0 = c := by rw [List.getD_eq_getElem?_getD, List.getElem?_eq_getElem hi, ← e]; rfl
  rw [e2] at this
  exact this
theorem keyAt_set {ks : List Int} {a p : Nat} {v : Int} (ha : a < ks.length) : keyAt (ks.set a v) p = if p = a then v else keyAt ks p := by
  unfold keyAt
  rw [List.getD_eq_getElem?_getD, List.getD_eq_getElem?_getD, List.getElem?_set]
  by_cases h : a = p
  · rw [if_pos h, if_pos (by omega), if_pos h.symm]
    rfl
  · rw [if_neg h, if_neg (fun z => h z.symm)]
theorem keyAt_swp {ks : List Int} {a b p : Nat} (ha : a < ks.length) (hb : b < ks.length) : keyAt (swp ks a b) p = if p = b then keyAt ks a else if p = a then keyAt ks b else keyAt ks p := by
  unfold swp
  rw [keyAt_set (by rw [List.length_set]; exact hb), keyAt_set ha]
theorem swp_perm {ks : List Int} {a b : Nat} (ha : a < ks.length) (hb : b < ks.length) : (swp ks a b).Perm ks := by
  have e1 : keyAt ks a = ks[a] := by unfold keyAt; rw [List.getD_eq_getElem?_getD, List.getElem?_eq_getElem ha]; rfl
  have e2 : keyAt ks b = ks[b] := by unfold keyAt; rw [List.getD_eq_getElem?_getD, List.getElem?_eq_getElem hb]; rfl
  unfold swp
  rw [e1, e2]
  exact List.set_set_perm ha hb
/-- no key of a child is less -/
def goodAt (n w : Nat) (ks : List Int) (p : Nat) : Prop := ∀ c ∈ kidL n w p, keyAt ks p ≤ keyAt ks c
def GoodFrom (n w : Nat) (ks : List Int) (i : Nat) : Prop := ∀ p, i ≤ p → p < n → goodAt n w ks p
theorem down_good {n w i : Nat} (hw : 1 ≤ w) : ∀ (f : Nat) (ks : List Int) (cur : Nat) (way : List Nat) (lk : Nat), ks.length = n → i ≤ cur → cur < n → n - cur ≤ f →
    (∀ p, i ≤ p → p < n → p ≠ cur → goodAt n w ks p) → (∀ q, i ≤ q → q < n → cur ∈ kidL n w q → ∀ c ∈ kidL n w cur, keyAt ks q ≤ keyAt ks c) → GoodFrom n w (goDown n w f ks cur way lk).1 i
  | 0, ks, cur, way, lk, hl, hi, hc, hf, g, up => absurd hf (by omega)
  | f + 1, ks, cur, way, lk, hl, hi, hc, hf, g, up => by
    by_cases h0 : kidL n w cur = []
    · rw [goDown_leaf h0]
      intro p h1 h2
      by_cases e : p = cur
      · subst e
        intro c hc
        rw [h0] at hc
        cases hc
      · exact g p h1 h2 e
    · generalize eb : leastC ks (kidL n w cur) = b
      have hm : b ∈ kidL n w cur := eb ▸ least_mem h0
      have hle : ∀ c ∈ kidL n w cur, keyAt ks b ≤ keyAt ks c := fun c hc => eb ▸ least_le hc
      obtain ⟨b1, b2⟩ := kid_in hw hm
      by_cases hlt : keyAt ks b < keyAt ks cur
      · rw [goDown_go h0 eb hlt]
        have ka : cur < ks.length := by omega
        have kb : b < ks.length := by omega
        refine down_good hw f _ b _ _ (by rw [swp_len]; exact hl) (by omega) b2 (by omega) (fun p h1 h2 hp c hcp => ?_) (fun q h1 h2 hq c hcb => ?_)
        · rw [keyAt_swp ka kb, keyAt_swp ka kb, if_neg hp]
          obtain ⟨m1, m2, m3⟩ := mem_kid.mp hcp
          by_cases e : p = cur
          · subst e
            rw [if_pos rfl]
            by_cases ec : c = b
            · rw [if_pos ec]
              omega
            · have := (kid_in hw hcp).1
              rw [if_neg ec, if_neg (by omega)]
              exact hle c hcp
          · rw [if_neg e]
            by_cases ec : c = b
            · subst ec
              exact absurd ((mem_kid.mp hm).2.2.symm.trans m3) (fun z => e z.symm)
            · rw [if_neg ec]
              by_cases ec2 : c = cur
              · subst ec2
                rw [if_pos rfl]
                exact up p h1 h2 hcp b hm
              · rw [if_neg ec2]
                exact g p h1 h2 e c hcp
        · have eq : q = cur := (mem_kid.mp hq).2.2.symm.trans (mem_kid.mp hm).2.2
          subst eq
          have := (kid_in hw hcb).1
          rw [keyAt_swp ka kb, keyAt_swp ka kb, if_neg (by omega), if_pos rfl, if_neg (by omega), if_neg (by omega)]
          exact g b (by omega) b2 (by omega) c hcb
      · rw [goDown_stay h0 (by rw [eb]; exact hlt)]
        intro p h1 h2
        by_cases e : p = cur
        · subst e
          intro c hc
          exact Int.le_trans (Int.not_lt.mp hlt) (hle c hc)
        · exact g p h1 h2 e
theorem down_perm {n w : Nat} (hw : 1 ≤ w) : ∀ (f : Nat) (ks : List Int) (cur : Nat) (way : List Nat) (lk : Nat), ks.length = n → cur < n → ((goDown n w f ks cur way lk).1).Perm ks
  | 0, ks, cur, way, lk, hl, hc => List.Perm.refl _
  | f + 1, ks, cur, way, lk, hl, hc => by
    by_cases h0 : kidL n w cur = []
    · rw [goDown_leaf h0]
    · obtain ⟨b1, b2⟩ := kid_in hw (least_mem (ks := ks) h0)
      by_cases hlt : keyAt ks (leastC ks (kidL n w cur)) < keyAt ks cur
      · rw [goDown_go h0 rfl hlt]
        exact (down_perm hw f _ _ _ _ (by rw [swp_len]; exact hl) b2).trans (swp_perm (by omega) (by omega))
      · rw [goDown_stay h0 hlt]
theorem down_still {n w f : Nat} {ks : List Int} {p : Nat} (h0 : kidL n w p ≠ []) (g : goodAt n w ks p) : goDown n w (f + 1) ks p [p] 0 = (ks, [p], (kidL n w p).length) := by
  have := g _ (least_mem (ks := ks) h0)
  rw [goDown_stay h0 (by omega), Nat.zero_add]
theorem down_way (n w : Nat) : ∀ f ks p way lk, way ≠ [] → (goDown n w f ks p way lk).2.1 ≠ []
  | 0, ks, p, way, lk, h => h
  | f + 1, ks, p, way, lk, h => by
    unfold goDown
    split
    · exact h
    · split
      · exact down_way n w f _ _ _ _ (by simp)
      · exact h
theorem down_ways (n w : Nat) : ∀ f ks p way lk, (goDown n w f ks p way lk).2.1.length ≤ way.length + f
  | 0, ks, p, way, lk => Nat.le_refl _
  | f + 1, ks, p, way, lk => by
    unfold goDown
    split
    · exact Nat.le_add_right _ _
    · split
      · have := down_ways n w f (swp ks p (leastC ks (kidL n w p))) (leastC ks (kidL n w p)) (way ++ [leastC ks (kidL n w p)]) (lk + (kidL n w p).length)
        rw [List.length_append, List.length_singleton] at this
        omega
      · exact Nat.le_add_right _ _
/-! building -/
abbrev BSt := List Int × List (Int × Int) × Nat × Nat
def lastW (l : List Nat) : Nat := l.getLastD 0
def bstep (n w : Nat) (st : BSt) (p : Nat) : BSt := if kidL n w p = [] then st else
  ((goDown n w 20 st.1 p [p] 0).1, st.2.1 ++ [((p : Int), ((lastW (goDown n w 20 st.1 p [p] 0).2.1 : Nat) : Int))], st.2.2.1 + ((goDown n w 20 st.1 p [p] 0).2.1.length - 1), st.2.2.2 + (goDown n w 20 st.1 p [p] 0).2.2)
def bld (n w : Nat) (ks : List Int) : Nat → BSt
  | 0 => (ks, [], 0, 0)
  | i + 1 => bstep n w (bld n w ks i) (n - 1 - i)
theorem bld_len (n w : Nat) (ks : List Int) : ∀ i, (bld n w ks i).1.length = ks.length
  | 0 => rfl
  | i + 1 => by
    unfold bld bstep
    split
    · exact bld_len n w ks i
    · show (goDown n w 20 (bld n w ks i).1 _ _ 0).1.length = _
      rw [down_res, bld_len n w ks i]
theorem bld_stops (n w : Nat) (ks : List Int) : ∀ i, (bld n w ks i).2.1.length ≤ i
  | 0 => Nat.le_refl _
  | i + 1 => by
    have := bld_stops n w ks i
    unfold bld bstep
    split
    · omega
    · show ((bld n w ks i).2.1 ++ [_]).length ≤ _
      rw [List.length_append, List.length_singleton]
      omega
theorem bld_perm {n w : Nat} (hw : 1 ≤ w) {ks : List Int} (hl : ks.length = n) : ∀ i, i ≤ n → ((bld n w ks i).1).Perm ks
  | 0, _ => List.Perm.refl _
  | i + 1, hi => by
    have ih := bld_perm hw hl i (by omega)
    unfold bld bstep
    split
    · exact ih
    · exact (down_perm hw 20 _ _ _ _ (by rw [bld_len]; exact hl) (by omega)).trans ih
theorem bld_good {n w : Nat} (hw : 1 ≤ w) (hn : n ≤ 12) {ks : List Int} (hl : ks.length = n) : ∀ i, i ≤ n → GoodFrom n w (bld n w ks i).1 (n - i)
  | 0, _ => fun p h1 h2 => absurd h1 (by omega)
  | i + 1, hi => by
    have ih := bld_good hw hn hl i (by omega)
    unfold bld bstep
    split
    · rename_i h0
      intro p h1 h2
      by_cases e : p = n - 1 - i
      · subst e
        intro c hc
        rw [h0] at hc
        cases hc
      · exact ih p (by omega) h2
    · refine down_good hw 20 _ _ _ _ (by rw [bld_len]; exact hl) (by omega) (by omega) (by omega) (fun p h1 h2 hp => ih p (by omega) h2) (fun q h1 h2 hq => ?_)
      have := (kid_in hw hq).1
      exact absurd h1 (by omega)
/-- a row without a bad place is built to itself -/
theorem bld_same {n w : Nat} {ks : List Int} (hl : ks.length = n) (g : GoodFrom n w ks 0) : ∀ i, i ≤ n → (bld n w ks i).1 = ks ∧ (bld n w ks i).2.2.1 = 0 ∧ ∀ z ∈ (bld n w ks i).2.1, z.1 = z.2
  | 0, _ => ⟨rfl, rfl, fun z hz => (nomatch hz)⟩
  | i + 1, hi => by
    obtain ⟨h1, h2, h3⟩ := bld_same hl g i (by omega)
    unfold bld bstep
    split
    · exact ⟨h1, h2, h3⟩
    · rename_i h0
      rw [h1, down_still h0 (g _ (Nat.zero_le _) (by omega))]
      refine ⟨rfl, by rw [h2]; rfl, fun z hz => ?_⟩
      rcases List.mem_append.mp hz with z1 | z1
      · exact h3 z z1
      · rw [List.mem_singleton.mp z1]
        rfl
/-- such a row is a heap by the law's own look -/
theorem good_heap {n w : Nat} (hw : 1 ≤ w ∧ w ≤ 4) (hn : n ≤ 12) {ks : List Int} (hl : ks.length = n) (g : GoodFrom n w ks 0) : lheap ks w = true := by
  rw [lheap_fault ks w hw (by omega)]
  refine decide_eq_true (List.eq_nil_iff_forall_not_mem.mpr fun p hp => ?_)
  unfold faultL at hp
  obtain ⟨h1, h2⟩ := List.mem_filter.mp hp
  unfold faultB at h2
  obtain ⟨h3, h4⟩ := Bool.and_eq_true_iff.mp h2
  have h1 := List.mem_range.mp h1
  have h3 := of_decide_eq_true h3
  have h4 := of_decide_eq_true h4
  have hlt : (p - 1) / w < p := Nat.lt_of_le_of_lt (Nat.div_le_self _ _) (by omega)
  have := g ((p - 1) / w) (Nat.zero_le _) (by omega) p (mem_kid.mpr ⟨h3, by omega, rfl⟩)
  unfold keyAt at this
  omega

end
end Tw

set_option Elab.async false
set_option linter.all false
set_option maxRecDepth 100000
set_option maxHeartbeats 2000000
namespace Tw
open PySem PySem.Spec PyProof.Rows L2
section
variable {P : Program} {w : World} {K : PySem.W.Frag} {mg : Str → Option Value} {base : Heap} {A : Ad}
def rTupOf (K : PySem.W.Frag) : List V → Hp → VK → Prop := fun xs H Q => ∃ p ys, xs = [V.ref p] ∧ ((SqL K H p ys ∧ ∀ l, H l = none → Q (.ref l) (upd H l (.tup ys))) ∨ SqT K H p ys ∧ Q (.ref p) H)
theorem call_tupK {X : Cx} : CallR X (.type "tuple") (rTupOf X.K) := call_tuple_of
theorem sorted_one {xs ys : List Int} (hp : xs.Perm ys) (h1 : xs.Pairwise (· ≤ ·)) (h2 : ys.Pairwise (· ≤ ·)) : xs = ys := List.Perm.eq_of_pairwise (fun x y _ _ h1 h2 => Int.le_antisymm h1 h2) h1 h2 hp
end
end Tw

set_option Elab.async false
set_option linter.all false
set_option maxRecDepth 100000
set_option maxHeartbeats 2000000
namespace Tw
open PySem PySem.Spec PyProof.Rows L2
section
variable {P : Program} {w : World} {K : PySem.W.Frag} {mg : Str → Option Value} {base : Heap} {A : Ad}
open LamX (ExtN Tabs TabS)
def spHp : Sp := fun vs H Q _ => ∃ (r w : Nat) (ks : List Int), vs = [.ref r, .int w] ∧ (1 ≤ w ∧ w ≤ 4) ∧ RowIn H r ks ∧ faultL ks w = [] ∧ ∀ H' q, Same H H' → H' q = some (.tup (ks.map V.int)) → Q (.ref q) H'
theorem ok_hp (T : Tx K mg A) : FnOk P w K mg base CX0 8 A.f_heap_of A.d_heap_of ["row", "arms"] spHp := by
  obtain ⟨mf, kf⟩ := kb_fau T
  refine T.F_heap_of.ok sc_heap_of (fun vs H Q E h => ?_) (fun cdv B outer s H vs Q E hr h => ?_)
  · obtain ⟨r, w, ks, rfl, _⟩ := h
    rfl
  · obtain ⟨r, w, ks, rfl, hw, hrow, hf, q⟩ := h
    have nd := sc_heap_of.nd
    refine ⟨_, PSs.nox (pss_cons (ps_set (i := 2) nd rfl (Or.inl rfl) (pe_callN (ok_fau T) (hr.mono (by decide)) (by rfl) T.m_faults T.F_faults.kp kf pass0 (pa_cons (pv 0) pa_nil) (pk_cons (pv 1) pk_nil)))
      (pss_cons (ps_if (pt_truth (pv 2) (fun _ => rfl)) (pss_one ps_never) pss_nil)
      (pss_one (ps_ret (pe_callTy (r := rTupOf K) call_tupK (by rfl) T.g_tuple (by decide +kernel) (pa_cons (pv 0) pa_nil)))))), ?_⟩
    refine ⟨_, rfl, _, rfl, rfl, rfl, r, w, ks, rfl, hw, hrow, fun H1 d s1 d0 hd => ?_⟩
    refine ⟨_, rfl, !(vi (faultL ks w)).isEmpty, .inl ⟨_, SqL.of hd, rfl⟩, ?_⟩
    rw [hf]
    refine iteF ?_
    rcases hrow.1.same s1 with h | h
    · exact ⟨_, rfl, r, _, rfl, .inl ⟨SqL.of h, fun t nt => q _ t (s1.trans (Same.up nt)) upd_same⟩⟩
    · exact ⟨_, rfl, r, _, rfl, .inr ⟨SqT.of h, q _ r s1 h⟩⟩
theorem b_hp (T : Tx K mg A) : L2.Binds K A.d_heap_of ["row", "arms"] [] := T.F_heap_of.binds fun _ _ _ _ _ _ us hl => match us, hl with | [_, _], _ => rfl
def spCf : Sp := fun vs H Q _ => ∃ (t : Nat) (xs : List V), vs = [.ref t] ∧ H t = some (.tup xs) ∧ xs ≠ [] ∧ Q .non H
theorem ok_cf (T : Tx K mg A) : FnOk P w K mg base CX0 2 A.f_check_filled A.d_check_filled ["heap"] spCf := by
  refine T.F_check_filled.ok sc_check_filled (fun vs H Q E h => ?_) (fun cdv B outer s H vs Q E hr h => ?_)
  · obtain ⟨t, xs, rfl, _⟩ := h
    rfl
  · obtain ⟨t, xs, rfl, ht, hn, q⟩ := h
    refine ⟨_, (pss_one (ps_if (pt_not (pt_truth (pv 0) (fun _ => rfl))) (pss_one ps_never) pss_nil)), ?_⟩
    refine ⟨_, rfl, !xs.isEmpty, .inr (.inl ⟨_, SqT.of ht, rfl⟩), ?_⟩
    cases xs with
    | nil => exact absurd rfl hn
    | cons a b => exact iteF q
theorem b_cf (T : Tx K mg A) : L2.Binds K A.d_check_filled ["heap"] [] := T.F_check_filled.binds fun _ _ _ _ _ _ us hl => match us, hl with | [_], _ => rfl
def spFh : Sp := fun vs H Q _ => ∃ (r w : Nat) (ks : List Int), vs = [.ref r, .int w] ∧ (1 ≤ w ∧ w ≤ 4) ∧ RowIn H r ks ∧ faultL ks w = [] ∧ ks ≠ [] ∧ ∀ H' q, Same H H' → H' q = some (.tup (ks.map V.int)) → Q (.ref q) H'
theorem ok_fh (T : Tx K mg A) : FnOk P w K mg base CX0 9 A.f_filled_heap_of A.d_filled_heap_of ["row", "arms"] spFh := by
  refine T.F_filled_heap_of.ok sc_filled_heap_of (fun vs H Q E h => ?_) (fun cdv B outer s H vs Q E hr h => ?_)
  · obtain ⟨r, w, ks, rfl, _⟩ := h
    rfl
  · obtain ⟨r, w, ks, rfl, hw, hrow, hf, hn, q⟩ := h
    have nd := sc_filled_heap_of.nd
    refine ⟨_, (pss_cons (ps_set (i := 2) nd rfl (Or.inl rfl) (pe_call (ok_hp T) (hr.mono (by decide)) (by rfl) T.m_heap_of T.F_heap_of.kp (b_hp T) .nil pass0 (pa_cons (pv 0) (pa_cons (pv 1) pa_nil))))
      (pss_cons (ps_expr (pe_call (ok_cf T) (hr.mono (by decide)) (by rfl) T.m_check_filled T.F_check_filled.kp (b_cf T) .nil pass0 (pa_cons (pv 2) pa_nil)))
      (pss_one (ps_ret (pv 2))))), ?_⟩
    refine ⟨_, rfl, _, rfl, r, w, ks, rfl, hw, hrow, hf, fun H1 t s1 e1 => ?_⟩
    exact ⟨_, rfl, t, _, rfl, e1, fun z => hn (List.map_eq_nil_iff.mp z), _, rfl, q H1 t s1 e1⟩
theorem b_fh (T : Tx K mg A) : L2.Binds K A.d_filled_heap_of ["row", "arms"] [] := T.F_filled_heap_of.binds fun _ _ _ _ _ _ us hl => match us, hl with | [_, _], _ => rfl
end
end Tw

set_option Elab.async false
set_option linter.all false
set_option maxRecDepth 100000
set_option maxHeartbeats 2000000
namespace Tw
open PySem PySem.Spec PyProof.Rows L2
section
variable {P : Program} {w : World} {K : PySem.W.Frag} {mg : Str → Option Value} {base : Heap} {A : Ad}
open LamX (ExtN Tabs TabS)
/-- the last key ahead of the ones between -/
def outRow (ks : List Int) : List Int := (ks.getD (ks.length - 1) 0) :: (ks.drop 1).take (ks.length - 2)
def takeR (ks : List Int) (w : Nat) : List Int × List Nat × Nat := if ks.length = 1 then ([], [], 0) else goDown (ks.length - 1) w 20 (outRow ks) 0 [0] 0
theorem outRow_len {ks : List Int} (h : 2 ≤ ks.length) : (outRow ks).length = ks.length - 1 := by
  unfold outRow
  rw [List.length_cons, List.length_take, List.length_drop]
  omega
theorem cut_end (ks : List Int) (h : 2 ≤ ks.length) : cutV (ks.map V.int) (some (-1)) none = [ks.getD (ks.length - 1) 0].map V.int ∧ ¬ (HT.sIx (ks.map V.int).length 0 (some (-1)) = 0 ∧ HT.sIx (ks.map V.int).length (ks.map V.int).length none = (ks.map V.int).length) := by
  have e : HT.sIx (ks.map V.int).length 0 (some (-1)) = ks.length - 1 := by
    unfold HT.sIx
    simp
    try omega
  have e2 : HT.sIx (ks.map V.int).length (ks.map V.int).length none = ks.length := by
    unfold HT.sIx
    simp
  refine ⟨?_, fun z => ?_⟩
  · unfold cutV
    rw [e, e2, ← List.map_drop, ← List.map_take]
    have d : ks.drop (ks.length - 1) = [ks.getD (ks.length - 1) 0] := by
      rw [List.drop_eq_getElem_cons (by omega), List.drop_eq_nil_of_le (by omega), List.getD_eq_getElem?_getD, List.getElem?_eq_getElem (by omega)]
      rfl
    rw [d, show ks.length - (ks.length - 1) = 1 by omega]
    rfl
  · rw [e] at z
    omega
theorem cut_mid (ks : List Int) (h : 2 ≤ ks.length) : cutV (ks.map V.int) (some 1) (some (-1)) = ((ks.drop 1).take (ks.length - 2)).map V.int ∧ ¬ (HT.sIx (ks.map V.int).length 0 (some 1) = 0 ∧ HT.sIx (ks.map V.int).length (ks.map V.int).length (some (-1)) = (ks.map V.int).length) := by
  have e : HT.sIx (ks.map V.int).length 0 (some 1) = 1 := by
    have := HT.sIx_nat (ks.map V.int).length 0 1
    rw [List.length_map] at this ⊢
    rw [show (some 1 : Option Int) = some ((1 : Nat) : Int) from rfl, this]
    omega
  have e2 : HT.sIx (ks.map V.int).length (ks.map V.int).length (some (-1)) = ks.length - 1 := by
    unfold HT.sIx
    simp
    try omega
  refine ⟨?_, fun z => ?_⟩
  · unfold cutV
    rw [e, e2, ← List.map_drop, ← List.map_take, show ks.length - 1 - 1 = ks.length - 2 by omega]
  · rw [e] at z
    omega
theorem cut_rest (ks : List Int) (h : 1 ≤ ks.length) : cutV (ks.map V.int) (some 1) none = (ks.drop 1).map V.int ∧ ¬ (HT.sIx (ks.map V.int).length 0 (some 1) = 0 ∧ HT.sIx (ks.map V.int).length (ks.map V.int).length none = (ks.map V.int).length) := by
  have e : HT.sIx (ks.map V.int).length 0 (some 1) = 1 := by
    have := HT.sIx_nat (ks.map V.int).length 0 1
    rw [List.length_map] at this ⊢
    rw [show (some 1 : Option Int) = some ((1 : Nat) : Int) from rfl, this]
    omega
  have e2 : HT.sIx (ks.map V.int).length (ks.map V.int).length none = ks.length := by
    unfold HT.sIx
    simp
  refine ⟨?_, fun z => ?_⟩
  · unfold cutV
    rw [e, e2, ← List.map_drop, ← List.map_take, List.take_of_length_le (by rw [List.length_drop]; exact Nat.le_refl _)]
  · rw [e] at z
    omega
theorem bnd_out {ks : List Int} (h : 2 ≤ ks.length) (hb : ∀ z ∈ ks, -1000000000 ≤ z ∧ z ≤ 1000000000) : ∀ z ∈ outRow ks, -1000000000 ≤ z ∧ z ≤ 1000000000 := by
  intro z hz
  unfold outRow at hz
  rcases List.mem_cons.mp hz with y | y
  · rw [y, List.getD_eq_getElem?_getD, List.getElem?_eq_getElem (by omega)]
    exact hb _ (List.getElem_mem _)
  · exact hb z (List.mem_of_mem_drop (List.mem_of_mem_take y))
def TookAt (C : Addr) (H : Hp) (t : Addr) (least : Int) (r : List Int × List Nat × Nat) : Prop := ∃ q : Addr, H t = some (.tup [.int least, .ref q]) ∧ resSift C H q r
def spTake2 (A : Ad) : Sp := fun vs H Q _ => ∃ (r w : Nat) (ks : List Int), vs = [.ref r, .int w] ∧ (1 ≤ w ∧ w ≤ 4) ∧ RowIn H r ks ∧ faultL ks w = [] ∧ ks ≠ [] ∧ Tabs (TT A) H ∧
  ∀ (H' : Hp) (t : Addr), ExtN H H' → Tabs (TT A) H' → TookAt A.CS H' t (ks.getD 0 0) (takeR ks w) → Q (.ref t) H'
theorem ok_tk (T : Tx K mg A) (TB : LamX.TabB base mg A.c_least_child A.P_least_child) : FnOk P w K mg base CX0 10 A.f_take A.d_take ["row", "arms"] (spTake2 A) := by
  obtain ⟨md, kd⟩ := kb_down T
  refine T.F_take.ok sc_take (fun vs H Q E h => ?_) (fun cdv B outer s H vs Q E hr h => ?_)
  · obtain ⟨r, w, ks, rfl, _⟩ := h
    rfl
  · obtain ⟨r, w, ks, rfl, hw, hrow, hf, hn, hT, q⟩ := h
    have nd := sc_take.nd
    have hl12 := hrow.2.1
    have hpos := List.length_pos_iff.mpr hn
    refine ⟨_, PSs.nox (pss_cons (ps_set (i := 2) nd rfl (Or.inl rfl) (pe_call (ok_fh T) (hr.mono (by decide)) (by rfl) T.m_filled_heap_of T.F_filled_heap_of.kp (b_fh T) .nil pass0 (pa_cons (pv 0) (pa_cons (pv 1) pa_nil))))
      (pss_cons (ps_if (pt_cmpR op_eq (pe_callB call_len_seq (by rfl) T.g_len PySem.boot_len (pa_cons (pv 2) pa_nil)) pe_int (nomark _)) (pss_one (ps_ret (pe_tup (pa_cons (pe_ix (r := rIx K) ix_seq (pv 2) pe_int (fun _ _ => rfl)) (pa_cons (pe_make T.mkCS (ok_zi T) (hr.mono (by decide)) (by rfl) T.mCS (b_zi T) .nil pass0 (pa_cons (pe_tup pa_nil) (pa_cons (pe_tup pa_nil) (pa_cons pe_int pa_nil)))) pa_nil))))) pss_nil)
      (pss_one (ps_ret (pe_tup (pa_cons (pe_ix (r := rIx K) ix_seq (pv 2) pe_int (fun _ _ => rfl)) (pa_cons (pe_callN (ok_down T TB) (hr.mono (by decide)) (by rfl) T.m_sift_down T.F_sift_down.kp kd pass0 (pa_cons (pe_op op_catA (pe_slice sl_tup (pv 2) (po_some (pe_un un_neg pe_int)) po_none) (pe_slice sl_tup (pv 2) (po_some pe_int) (po_some (pe_un un_neg pe_int)))) (pa_cons pe_int pa_nil)) (pk_cons (pv 1) pk_nil)) pa_nil))))))), ?_⟩
    refine ⟨_, rfl, _, rfl, r, w, ks, rfl, hw, hrow, hf, hn, fun H1 t s1 e1 => ?_⟩
    have at0 : atI (ks.map V.int) 0 = some (V.int (ks.getD 0 0)) := key_at hpos
    refine ⟨_, rfl, t, _, rfl, .inr (SqT.of e1), rfl, _, rfl, ?_⟩
    by_cases h1 : ks.length = 1
    · rw [decide_eq_true (show V.int ((ks.map V.int).length : Nat) = V.int 1 by rw [List.length_map, h1]; rfl)]
      refine iteT ?_
      refine ⟨_, rfl, .inr (.inl ⟨t, _, _, _, rfl, rfl, SqT.of e1, at0, Nat.zero_le _, fun u1 n1 => ⟨Nat.zero_le _, fun u2 n2 => ?_⟩⟩)⟩
      have s2 := (Same.up (o := .tup []) n1).trans (Same.up (o := .tup []) n2)
      intro x dx2 nx ndx nex
      have s3 := new_up (C := A.CS) nx ndx nex
      refine ⟨x, dx2, u1, u2, 0, [], [], rfl, upd_same, .inr (s3 _ _ ((Same.up n2) _ _ upd_same)), .inr (s3 _ _ upd_same), fun G6 k6 sx => ⟨rfl, by show 2 ≤ sizeLine; decide, fun z nz => ?_⟩⟩
      have s4 := s1.trans (s2.trans ((new_same nx ndx k6).trans (Same.up (o := .tup [V.int (ks.getD 0 0), V.ref x]) nz)))
      refine q _ z (extN_of s4) (hT.ext s4) ⟨x, upd_same, ?_⟩
      unfold takeR
      rw [if_pos h1]
      exact sx.same (Same.up nz)
    · rw [decide_eq_false (show ¬ V.int ((ks.map V.int).length : Nat) = V.int 1 by rw [List.length_map]; intro z; injection z with z; omega)]
      have h2 : 2 ≤ ks.length := by omega
      refine iteF ?_
      refine ⟨_, rfl, .inr (.inl ⟨t, _, _, _, rfl, rfl, SqT.of e1, at0, ?_⟩)⟩
      obtain ⟨c1, c1n⟩ := cut_end ks h2
      obtain ⟨c2, c2n⟩ := cut_mid ks h2
      refine ⟨_, rfl, _, rfl, _, rfl, t, _, rfl, SqT.of e1, c1n, fun a1 na1 => ?_⟩
      rw [c1]
      have sa := Same.up (o := .tup ([ks.getD (ks.length - 1) 0].map V.int)) na1
      refine ⟨_, rfl, _, rfl, _, rfl, _, rfl, t, _, rfl, SqT.of (sa _ _ e1), c2n, fun a2 na2 => ?_⟩
      rw [c2]
      have sb := Same.up (o := .tup (((ks.drop 1).take (ks.length - 2)).map V.int)) na2
      have ea1 := sb _ _ (upd_same (H := H1) (a := a1) (o := .tup ([ks.getD (ks.length - 1) 0].map V.int)))
      have ea2 : upd (upd H1 a1 (.tup ([ks.getD (ks.length - 1) 0].map V.int))) a2 (.tup (((ks.drop 1).take (ks.length - 2)).map V.int)) a2 = some (.tup (((ks.drop 1).take (ks.length - 2)).map V.int)) := upd_same
      have s2 := sa.trans sb
      clear sa sb
      generalize upd (upd H1 a1 (.tup ([ks.getD (ks.length - 1) 0].map V.int))) a2 (.tup (((ks.drop 1).take (ks.length - 2)).map V.int)) = H2 at s2 ea1 ea2
      refine ⟨a1, a2, _, _, rfl, rfl, SqT.of ea1, SqT.of ea2, Nat.le_of_lt (small1000 (by rw [List.length_map, List.length_map, List.length_take, List.length_drop, List.length_singleton]; omega)), fun z => (nomatch z), fun _ hn2 => ?_, fun _ hn2 c nc => ?_⟩
      · have e0 : (ks.drop 1).take (ks.length - 2) = [] := List.map_eq_nil_iff.mp hn2
        obtain ⟨c, rfl⟩ : ∃ c, c = a1 := ⟨a1, rfl⟩
        have s3 := s2
        have ec : H2 c = some (.tup ((outRow ks).map V.int)) := by unfold outRow; rw [e0]; exact ea1
        refine ⟨_, rfl, rfl, rfl, c, 0, w, outRow ks, rfl, hw, ⟨.inr ec, by rw [outRow_len h2]; omega, bnd_out h2 hrow.2.2⟩, by rw [outRow_len h2]; omega, (hT.ext s1).ext s3, fun H4 p e4 t4 rp => ⟨by show 2 ≤ sizeLine; decide, fun z nz => ?_⟩⟩
        have sz := Same.up (o := .tup [V.int (ks.getD 0 0), V.ref p]) nz
        refine q _ z ((extN_of (s1.trans s3)).trans (e4.trans (extN_of sz))) (t4.ext sz) ⟨p, upd_same, ?_⟩
        unfold takeR
        rw [if_neg h1]
        rw [outRow_len h2] at rp
        exact rp.same sz
      · have s3 := s2.trans (Same.up (o := .tup ((outRow ks).map V.int)) nc)
        have ec : upd H2 c (.tup ((outRow ks).map V.int)) c = some (.tup ((outRow ks).map V.int)) := upd_same
        rw [show [ks.getD (ks.length - 1) 0].map V.int ++ ((ks.drop 1).take (ks.length - 2)).map V.int = (outRow ks).map V.int from rfl]
        generalize upd H2 c (.tup ((outRow ks).map V.int)) = H3 at s3 ec
        refine ⟨_, rfl, rfl, rfl, c, 0, w, outRow ks, rfl, hw, ⟨.inr ec, by rw [outRow_len h2]; omega, bnd_out h2 hrow.2.2⟩, by rw [outRow_len h2]; omega, (hT.ext s1).ext s3, fun H4 p e4 t4 rp => ⟨by show 2 ≤ sizeLine; decide, fun z nz => ?_⟩⟩
        have sz := Same.up (o := .tup [V.int (ks.getD 0 0), V.ref p]) nz
        refine q _ z ((extN_of (s1.trans s3)).trans (e4.trans (extN_of sz))) (t4.ext sz) ⟨p, upd_same, ?_⟩
        unfold takeR
        rw [if_neg h1]
        rw [outRow_len h2] at rp
        exact rp.same sz
theorem kb_tk (T : Tx K mg A) : ∃ mv : List Value, KBn K A.d_take ["row", "arms"] 1 ["arms"] (fun us ws => us ++ (mv ++ ws)) (fun vs zs => vs ++ zs) := by
  obtain ⟨mv, h⟩ := T.F_take.kbinds0 (ps := ["row", "arms"]) 1 ["arms"] [] (fun us mv ws => us ++ (mv ++ ws)) (by simp) (by simp) (fun r1 r2 r3 => r1.append (r2.append r3))
    (fun D doc pm an cdv ct us mv ws h1 h2 h3 => by
      match us, mv, ws, h1, h2, h3 with
      | [a], [], [c], _, _, _ => rfl)
  exact ⟨mv, h⟩
/-! a key put for the least one -/
def putRow (k : Int) (ks : List Int) : List Int := k :: ks.drop 1
theorem putRow_len {k : Int} {ks : List Int} (h : 1 ≤ ks.length) : (putRow k ks).length = ks.length := by
  unfold putRow
  rw [List.length_cons, List.length_drop]
  omega
end
end Tw

set_option Elab.async false
set_option linter.all false
set_option maxRecDepth 100000
set_option maxHeartbeats 2000000
namespace Tw
open PySem PySem.Spec PyProof.Rows L2
section
variable {P : Program} {w : World} {K : PySem.W.Frag} {mg : Str → Option Value} {base : Heap} {A : Ad}
open LamX (ExtN Tabs TabS)
/-- the hole goes down -/
def goHole (n w : Nat) : Nat → List Int → Nat → Nat → List Int × Nat × Nat
  | 0, ks, h, lk => (ks, h, lk)
  | f + 1, ks, h, lk => if kidL n w h = [] then (ks, h, lk) else goHole n w f (ks.set h (keyAt ks (leastC ks (kidL n w h)))) (leastC ks (kidL n w h)) (lk + ((kidL n w h).length - 1))
theorem hole_leaf {n w f : Nat} {ks : List Int} {h lk : Nat} (e : kidL n w h = []) : goHole n w f ks h lk = (ks, h, lk) := by
  cases f with
  | zero => rfl
  | succ f => rw [goHole, if_pos e]
theorem hole_go {n w f : Nat} {ks : List Int} {h lk b : Nat} (e : kidL n w h ≠ []) (eb : leastC ks (kidL n w h) = b) : goHole n w (f + 1) ks h lk = goHole n w f (ks.set h (keyAt ks b)) b (lk + ((kidL n w h).length - 1)) := by
  rw [goHole, if_neg e, eb]
theorem hole_len (n w : Nat) : ∀ f ks h lk, (goHole n w f ks h lk).1.length = ks.length
  | 0, ks, h, lk => rfl
  | f + 1, ks, h, lk => by
    unfold goHole
    split
    · rfl
    · rw [hole_len n w f, List.length_set]
theorem hole_lt {n w : Nat} (hw : 1 ≤ w) : ∀ f ks h lk, h < n → (goHole n w f ks h lk).2.1 < n
  | 0, ks, h, lk, hh => hh
  | f + 1, ks, h, lk, hh => by
    unfold goHole
    split
    · exact hh
    · rename_i e
      exact hole_lt hw f _ _ _ (kid_in hw (least_mem (ks := ks) e)).2
theorem keyAt_mem {ks : List Int} {p : Nat} (h : p < ks.length) : keyAt ks p ∈ ks := by
  unfold keyAt
  rw [List.getD_eq_getElem?_getD, List.getElem?_eq_getElem h]
  exact List.getElem_mem h
theorem hole_mem {n w : Nat} (hw : 1 ≤ w) : ∀ f ks h lk, ks.length = n → ∀ z ∈ (goHole n w f ks h lk).1, z ∈ ks
  | 0, ks, h, lk, hl, z, hz => hz
  | f + 1, ks, h, lk, hl, z, hz => by
    by_cases e : kidL n w h = []
    · rw [hole_leaf e] at hz
      exact hz
    · rw [hole_go e rfl] at hz
      have := hole_mem hw f _ _ _ (by rw [List.length_set]; exact hl) z hz
      rcases List.mem_or_eq_of_mem_set this with y | y
      · exact y
      · rw [y]
        exact keyAt_mem (by have := (kid_in hw (least_mem (ks := ks) e)).2; omega)
def holeR (ks : List Int) (w : Nat) : List Int × List Nat × Nat := if ks.length = 1 then ([], [], 0) else
  let r := goHole (ks.length - 1) w 20 (ks.take (ks.length - 1)) 0 0
  let u := goUp w 20 (r.1.set r.2.1 (ks.getD (ks.length - 1) 0)) r.2.1 [r.2.1] 0
  (u.1, u.2.1, r.2.2 + u.2.2)
/-- one list of one's own, where code may be made -/
structure OneE (T : List (Addr × Str)) (H : Hp) (D : Addr) (xs : List V) (H' : Hp) : Prop where
  e : ExtN H H'
  t : Tabs T H'
  d : H' D = some (.lst xs)
  nD : H D = Option.none
section
variable {T : List (Addr × Str)} {H H' H2 : Hp} {D : Addr} {xs zs : List V}
theorem OneE.setD (h : OneE T H D xs H') : OneE T H D zs (upd H' D (.lst zs)) :=
  ⟨fun b o e n => by rw [upd_ne (ne_of_none e h.nD)]; exact h.e _ _ e n, tabs_upd h.t h.d, upd_same, h.nD⟩
theorem OneE.same (h : OneE T H D xs H') (s : Same H' H2) : OneE T H D xs H2 := ⟨h.e.trans (extN_of s), h.t.ext s, s _ _ h.d, h.nD⟩
theorem OneE.ext (h : OneE T H D xs H') (e : ExtN H' H2) (t : Tabs T H2) : OneE T H D xs H2 := ⟨h.e.trans e, t, e _ _ h.d (fun ps z => nomatch z), h.nD⟩
end
def muH (σ : L2.St) (_ : Hp) : Nat := match σ[6]? with
  | some (some (V.int i)) => 40 - i.toNat
  | _ => 0
theorem last_ints {ks : List Int} (h : 1 ≤ ks.length) : atI (ks.map V.int) (-1) = some (V.int (ks.getD (ks.length - 1) 0)) := by
  have d : ks = ks.take (ks.length - 1) ++ [ks.getD (ks.length - 1) 0] := by
    have x : ks.take (ks.length - 1) ++ [ks[ks.length - 1]] = ks.take (ks.length - 1 + 1) := List.take_append_getElem (by omega)
    rw [show ks.length - 1 + 1 = ks.length by omega, List.take_length] at x
    rw [List.getD_eq_getElem?_getD, List.getElem?_eq_getElem (by omega)]
    exact x.symm
  have e : ks.map V.int = (ks.take (ks.length - 1)).map V.int ++ [V.int (ks.getD (ks.length - 1) 0)] := by
    rw [map_one]
    exact congrArg (List.map V.int) d
  rw [e]
  exact last_at
def spHole (A : Ad) : Sp := fun vs H Q _ => ∃ (r w : Nat) (ks : List Int), vs = [.ref r, .int w] ∧ (1 ≤ w ∧ w ≤ 4) ∧ RowIn H r ks ∧ faultL ks w = [] ∧ ks ≠ [] ∧ Tabs (TT A) H ∧
  ∀ (H' : Hp) (t : Addr), ExtN H H' → Tabs (TT A) H' → TookAt A.CS H' t (ks.getD 0 0) (holeR ks w) → Q (.ref t) H'
theorem ok_th (T : Tx K mg A) (TB : LamX.TabB base mg A.c_least_child A.P_least_child) : FnOk P w K mg base CX0 10 A.f_take_by_hole A.d_take_by_hole ["row", "arms"] (spHole A) := by
  obtain ⟨mu, ku⟩ := kb_up T
  obtain ⟨mo, ko⟩ := kb_of T
  refine T.F_take_by_hole.ok sc_take_by_hole (fun vs H Q E h => ?_) (fun cdv B outer s H vs Q E hr h => ?_)
  · obtain ⟨r, w, ks, rfl, _⟩ := h
    rfl
  · obtain ⟨r, w, ks, rfl, hw, hrow, hf, hn, hT, q⟩ := h
    have nd := sc_take_by_hole.nd
    have hl12 := hrow.2.1
    have hpos := List.length_pos_iff.mpr hn
    refine ⟨_, PSs.nox (pss_cons (ps_set (i := 2) nd rfl (Or.inl rfl) (pe_call (ok_fh T) (hr.mono (by decide)) (by rfl) T.m_filled_heap_of T.F_filled_heap_of.kp (b_fh T) .nil pass0 (pa_cons (pv 0) (pa_cons (pv 1) pa_nil))))
      (pss_cons (ps_if (pt_cmpR op_eq (pe_callB call_len_seq (by rfl) T.g_len PySem.boot_len (pa_cons (pv 2) pa_nil)) pe_int (nomark _)) (pss_one (ps_ret (pe_tup (pa_cons (pe_ix (r := rIx K) ix_seq (pv 2) pe_int (fun _ _ => rfl)) (pa_cons (pe_make T.mkCS (ok_zi T) (hr.mono (by decide)) (by rfl) T.mCS (b_zi T) .nil pass0 (pa_cons (pe_tup pa_nil) (pa_cons (pe_tup pa_nil) (pa_cons pe_int pa_nil)))) pa_nil))))) pss_nil)
      (pss_cons (ps_set (i := 3) nd rfl (Or.inl rfl) (pe_callTy call_list_of (by rfl) T.g_list (by decide +kernel) (pa_cons (pe_slice sl_tup (pv 2) po_none (po_some (pe_un un_neg pe_int))) pa_nil)))
      (pss_cons (ps_set (i := 4) nd rfl (Or.inl rfl) (pe_cmethK (pe_glob (v := .ref A.C) (by rfl) T.mC (relR _)) T.cr T.cof (ok_of T) (hr.mono (by decide)) ko pass0 (pa_cons (pv 3) pa_nil) (pk_cons (pv 1) pk_nil)))
      (pss_cons (ps_set (i := 5) nd rfl (Or.inl rfl) pe_int)
      (pss_cons (ps_set (i := 6) nd rfl (Or.inl rfl) pe_int)
      (C8.pss_cut (ps_while PassesOwn.never (pt_truth (pe_gi T.D_t___getitem__ (ok_gi T) (hr.mono (by decide)) (b_gi T) pass0 (pv 4) (pv 6)) (fun _ => rfl)) (pss_cons (ps_set (i := 7) nd rfl (Or.inl rfl) (pe_call (ok_lc T TB) (hr.mono (by decide)) (by rfl) T.m_least_child T.F_least_child.kp (b_lc T) .nil pass0 (pa_cons (pv 3) (pa_cons (pe_gi T.D_t___getitem__ (ok_gi T) (hr.mono (by decide)) (b_gi T) pass0 (pv 4) (pv 6)) pa_nil))))
      (pss_cons (ps_aug (i := 5) nd rfl (Or.inl rfl) (pe_op op_sub (pe_callB call_len_seq (by rfl) T.g_len PySem.boot_len (pa_cons (pe_gi T.D_t___getitem__ (ok_gi T) (hr.mono (by decide)) (b_gi T) pass0 (pv 4) (pv 6)) pa_nil)) pe_int) ip_add)
      (pss_cons (ps_asg (pe_ix ix_list (pv 3) (pv 7) (fun _ _ => rfl)) (pg_sub (pv 3) (pv 6) set_list))
      (pss_one (ps_set (i := 6) nd rfl (Or.inl rfl) (pv 7)))))))
      (pss_cons (ps_asg (pe_ix (r := rIx K) ix_seq (pv 2) (pe_un un_neg pe_int) (fun _ _ => rfl)) (pg_sub (pv 3) (pv 6) set_list))
      (pss_cons (ps_set (i := 8) nd rfl (Or.inl rfl) (pe_callN (ok_up T) (hr.mono (by decide)) (by rfl) T.m_sift_up T.F_sift_up.kp ku pass0 (pa_cons (pv 3) (pa_cons (pv 6) pa_nil)) (pk_cons (pv 1) pk_nil)))
      (pss_one (ps_ret (pe_tup (pa_cons (pe_ix (r := rIx K) ix_seq (pv 2) pe_int (fun _ _ => rfl)) (pa_cons (pe_make T.mkCS (ok_zi T) (hr.mono (by decide)) (by rfl) T.mCS (b_zi T) .nil pass0 (pa_cons (pe_fld (pv 8) rfl) (pa_cons (pe_fld (pv 8) rfl) (pa_cons (pe_op op_add (pv 5) (pe_fld (pv 8) rfl)) pa_nil)))) pa_nil)))))))))))))), ?_⟩
    refine ⟨_, rfl, _, rfl, r, w, ks, rfl, hw, hrow, hf, hn, fun H1 t s1 e1 => ?_⟩
    have at0 : atI (ks.map V.int) 0 = some (V.int (ks.getD 0 0)) := key_at hpos
    refine ⟨_, rfl, t, _, rfl, .inr (SqT.of e1), rfl, _, rfl, ?_⟩
    by_cases h1 : ks.length = 1
    · rw [decide_eq_true (show V.int ((ks.map V.int).length : Nat) = V.int 1 by rw [List.length_map, h1]; rfl)]
      refine iteT ?_
      refine ⟨_, rfl, .inr (.inl ⟨t, _, _, _, rfl, rfl, SqT.of e1, at0, Nat.zero_le _, fun u1 n1 => ⟨Nat.zero_le _, fun u2 n2 => ?_⟩⟩)⟩
      have s2 := (Same.up (o := .tup []) n1).trans (Same.up (o := .tup []) n2)
      intro x dx2 nx ndx nex
      have s3 := new_up (C := A.CS) nx ndx nex
      refine ⟨x, dx2, u1, u2, 0, [], [], rfl, upd_same, .inr (s3 _ _ ((Same.up n2) _ _ upd_same)), .inr (s3 _ _ upd_same), fun G6 k6 sx => ⟨rfl, by show 2 ≤ sizeLine; decide, fun z nz => ?_⟩⟩
      have s4 := s1.trans (s2.trans ((new_same nx ndx k6).trans (Same.up (o := .tup [V.int (ks.getD 0 0), V.ref x]) nz)))
      refine q _ z (extN_of s4) (hT.ext s4) ⟨x, upd_same, ?_⟩
      unfold holeR
      rw [if_pos h1]
      exact sx.same (Same.up nz)
    · rw [decide_eq_false (show ¬ V.int ((ks.map V.int).length : Nat) = V.int 1 by rw [List.length_map]; intro z; injection z with z; omega)]
      have h2 : 2 ≤ ks.length := by omega
      refine iteF ?_
      obtain ⟨c1, c1n⟩ := cut_last (ks.map V.int) (fun z => hn (List.map_eq_nil_iff.mp z))
      refine ⟨_, rfl, _, rfl, _, rfl, t, _, rfl, SqT.of e1, c1n, fun a1 na1 => ?_⟩
      rw [c1, List.length_map, ← List.map_take]
      have sa := Same.up (o := .tup ((ks.take (ks.length - 1)).map V.int)) na1
      refine ⟨a1, _, rfl, .inr (SqT.of upd_same), fun D nD => ?_⟩
      obtain ⟨ks0, ek0⟩ : ∃ ks0, ks0 = ks.take (ks.length - 1) := ⟨_, rfl⟩
      obtain ⟨n, en⟩ : ∃ n, n = ks.length - 1 := ⟨_, rfl⟩
      have hl0 : ks0.length = n := by rw [ek0, List.length_take]; omega
      have hb0 : ∀ z ∈ ks0, -1000000000 ≤ z ∧ z ≤ 1000000000 := fun z hz => hrow.2.2 z (List.mem_of_mem_take (by rw [← ek0]; exact hz))
      rw [← ek0]
      rw [← ek0] at nD sa
      have nD0 : H1 D = none := sa.free nD
      have one0 : OneE (TT A) H1 D (ks0.map V.int) (upd (upd H1 a1 (.tup (ks0.map V.int))) D (.lst (ks0.map V.int))) :=
        ⟨extN_of (sa.trans (Same.up nD)), (hT.ext s1).ext (sa.trans (Same.up nD)), upd_same, nD0⟩
      generalize upd (upd H1 a1 (.tup (ks0.map V.int))) D (.lst (ks0.map V.int)) = H2 at one0
      refine ⟨rfl, _, rfl, _, rfl, rfl, rfl, D, w, ks0, rfl, hw, .inl one0.d, by omega, hb0, fun H3 tr s3 p0 t3 => ?_⟩
      have one3 := one0.same s3
      rw [hl0] at t3
      refine ⟨fun σ' H' => ∃ (x7 : Option V), σ' = [some (.ref r), some (.int w), some (.ref t), some (.ref D), some (.ref tr), some (.int ((goHole n w 20 ks0 0 0).2.2 : Nat)), some (.int ((goHole n w 20 ks0 0 0).2.1 : Nat)), x7, none] ∧ OneE (TT A) H1 D ((goHole n w 20 ks0 0 0).1.map V.int) H', ?_, ?_⟩
      · refine while_by (fun σ' H' => ∃ (f cur lk : Nat) (ks' : List Int) (x7 : Option V), σ' = [some (.ref r), some (.int w), some (.ref t), some (.ref D), some (.ref tr), some (.int lk), some (.int cur), x7, none] ∧
          OneE (TT A) H1 D (ks'.map V.int) H' ∧ TreeAt A.C H' tr n w ∧ cur < n ∧ ks'.length = n ∧ n - cur < f ∧ goHole n w 20 ks0 0 0 = goHole n w f ks' cur lk) muH ?_ ?_ ?_
        · exact ⟨20, 0, 0, ks0, none, rfl, one3, t3, by omega, hl0, by omega, rfl⟩
        · rintro σ' H' ⟨f, cur, lk, ks', x7, rfl, one, tt, hcur, hkl, hfc, eg⟩
          obtain ⟨f, rfl⟩ : ∃ f', f = f' + 1 := ⟨f - 1, by omega⟩
          obtain ⟨dx, l, b1, b2⟩ := tt.ob
          refine ⟨_, rfl, _, rfl, tr, dx, _, rfl, b1, tr, n, w, cur, rfl, tt, hcur, fun H5 ch s5 hch => ?_⟩
          rw [kids_eq, kids_same n (by omega) w (by omega) cur hcur hw.1] at hch
          have one5 := one.same s5
          have tt5 := tt.same s5
          refine ⟨!(vi (kidL n w cur)).isEmpty, .inr (.inl ⟨_, SqT.of hch, rfl⟩), ?_⟩
          by_cases hk0 : kidL n w cur = []
          · rw [hk0]
            refine iteF ?_
            rw [hole_leaf hk0] at eg
            rw [eg]
            exact ⟨_, rfl, one5⟩
          · have e0 : (!(vi (kidL n w cur)).isEmpty) = true := by
              cases e : kidL n w cur with
              | nil => exact absurd e hk0
              | cons a b => rfl
            rw [e0]
            refine iteT ?_
            have hmem := least_mem (ks := ks') hk0
            have hk4 := kid_len n (by omega) w (by omega) cur hcur hw.1
            have hkp := List.length_pos_iff.mpr hk0
            obtain ⟨hb1, hb2⟩ := kid_in hw.1 hmem
            obtain ⟨dx5, l5, b15, b25⟩ := tt5.ob
            refine ⟨_, rfl, _, rfl, _, rfl, tr, dx5, _, rfl, b15, tr, n, w, cur, rfl, tt5, hcur, fun H6 ch6 s6 hch6 => ?_⟩
            rw [kids_eq, kids_same n (by omega) w (by omega) cur hcur hw.1] at hch6
            have one6 := one5.same s6
            have tt6 := tt5.same s6
            refine ⟨D, ch6, ks', wz (kidL n w cur), rfl, SqL.of one6.d, by rw [← vi_wz]; exact SqT.of hch6, ?_, ?_, one6.t, fun m H7 e7 t7 hm => ?_⟩
            · unfold wz
              rw [List.length_map]
              exact hkp
            · intro z hz
              unfold wz at hz
              obtain ⟨j, hj, rfl⟩ := List.mem_map.mp hz
              have := kid_in hw.1 hj
              omega
            have em := least_wz hm
            subst em
            rw [hole_go hk0 rfl] at eg
            generalize leastC ks' (kidL n w cur) = b at *
            have one7 := one6.ext e7 t7
            have tt7 := tt6.ext e7
            obtain ⟨dx7, l7, b17, b27⟩ := tt7.ob
            refine ⟨_, rfl, _, rfl, _, rfl, tr, dx7, _, rfl, b17, tr, n, w, cur, rfl, tt7, hcur, fun H8 ch8 s8 hch8 => ?_⟩
            rw [kids_eq, kids_same n (by omega) w (by omega) cur hcur hw.1] at hch8
            have one8 := one7.same s8
            have tt8 := tt7.same s8
            refine ⟨ch8, _, rfl, .inr (SqT.of hch8), _, _, rfl, rfl, _, _, rfl, rfl, ?_⟩
            refine ⟨_, rfl, _, rfl, D, _, _, _, rfl, rfl, SqL.of one8.d, key_at (by omega), ?_⟩
            refine ⟨_, rfl, _, rfl, D, _, _, cur, rfl, rfl, one8.d, ixN_nat (by rw [List.length_map]; omega), ?_⟩
            rw [set_int, vi_len]
            have one9 : OneE (TT A) H1 D ((ks'.set cur (keyAt ks' b)).map V.int) (upd H8 D (.lst ((ks'.set cur (keyAt ks' b)).map V.int))) := one8.setD
            have tt9 : TreeAt A.C (upd H8 D (.lst ((ks'.set cur (keyAt ks' b)).map V.int))) tr n w := by
              obtain ⟨dx8, l8, b18, b28⟩ := tt8.ob
              refine ⟨⟨dx8, l8, ?_, ?_⟩, tt8.hn, tt8.hw⟩
              · rw [upd_ne (ne_of b18 one8.d (by intro y; cases y))]; exact b18
              · rw [upd_ne (ne_of b28 one8.d (by intro y; cases y))]; exact b28
            refine ⟨_, rfl, ⟨f, b, lk + ((kidL n w cur).length - 1), _, some (V.int (b : Nat)), ?_, one9, tt9, hb2, by rw [List.length_set]; exact hkl, by omega, eg⟩, ?_⟩
            · show ([some (.ref r), some (.int w), some (.ref t), some (.ref D), some (.ref tr), some (V.int ((lk : Int) + (((kidL n w cur).length : Int) - 1))), some (V.int (b : Nat)), some (V.int (b : Nat)), none] : List (Option V)) = _
              rw [show (lk : Int) + (((kidL n w cur).length : Int) - 1) = ((lk + ((kidL n w cur).length - 1) : Nat) : Int) by omega]
            · show 40 - (b : Int).toNat < 40 - (cur : Int).toNat
              omega
        · rintro σ' H' Q1 Q2 mono ⟨v, hv, v2, hv2, a, dx, fs, z1, z2, p, n', w', i', z3, t', hi', z⟩
          exact ⟨v, hv, v2, hv2, a, dx, fs, z1, z2, p, n', w', i', z3, t', hi', fun H5 q5 s5 h5 => let ⟨k, tv, y⟩ := z H5 q5 s5 h5; ⟨k, tv, mono _ _ y⟩⟩
      · rintro σ' H' ⟨x7, rfl, one⟩
        have hl5 : (goHole n w 20 ks0 0 0).1.length = n := (hole_len n w 20 ks0 0 0).trans hl0
        have hlt := hole_lt (n := n) hw.1 20 ks0 0 0 (by omega)
        have hbm : ∀ z ∈ (goHole n w 20 ks0 0 0).1, -1000000000 ≤ z ∧ z ≤ 1000000000 := fun z hz => hb0 z (hole_mem hw.1 20 ks0 0 0 hl0 z hz)
        have hlast : -1000000000 ≤ ks.getD (ks.length - 1) 0 ∧ ks.getD (ks.length - 1) 0 ≤ 1000000000 := by
          rw [List.getD_eq_getElem?_getD, List.getElem?_eq_getElem (by omega)]
          exact hrow.2.2 _ (List.getElem_mem _)
        have eH : holeR ks w = ((goUp w 20 ((goHole n w 20 ks0 0 0).1.set (goHole n w 20 ks0 0 0).2.1 (ks.getD (ks.length - 1) 0)) (goHole n w 20 ks0 0 0).2.1 [(goHole n w 20 ks0 0 0).2.1] 0).1, (goUp w 20 ((goHole n w 20 ks0 0 0).1.set (goHole n w 20 ks0 0 0).2.1 (ks.getD (ks.length - 1) 0)) (goHole n w 20 ks0 0 0).2.1 [(goHole n w 20 ks0 0 0).2.1] 0).2.1, (goHole n w 20 ks0 0 0).2.2 + (goUp w 20 ((goHole n w 20 ks0 0 0).1.set (goHole n w 20 ks0 0 0).2.1 (ks.getD (ks.length - 1) 0)) (goHole n w 20 ks0 0 0).2.1 [(goHole n w 20 ks0 0 0).2.1] 0).2.2) := by
          unfold holeR
          rw [if_neg h1, ← ek0, ← en]
        rw [eH] at q
        clear eH
        have hla := last_ints hpos
        generalize goHole n w 20 ks0 0 0 = res at *
        generalize ks.getD (ks.length - 1) 0 = last at *
        have et := one.e _ _ e1 (fun ps z => nomatch z)
        refine ⟨_, rfl, _, rfl, .inr (.inl ⟨t, _, _, _, rfl, rfl, SqT.of et, hla, ?_⟩)⟩
        refine ⟨_, rfl, _, rfl, D, _, _, res.2.1, rfl, rfl, one.d, ixN_nat (by rw [List.length_map]; omega), ?_⟩
        rw [set_int]
        have oneS : OneE (TT A) H1 D ((res.1.set res.2.1 last).map V.int) (upd H' D (.lst ((res.1.set res.2.1 last).map V.int))) := one.setD
        generalize upd H' D (.lst ((res.1.set res.2.1 last).map V.int)) = H8 at oneS
        have hbs : ∀ z ∈ res.1.set res.2.1 last, -1000000000 ≤ z ∧ z ≤ 1000000000 := fun z hz => by
          rcases List.mem_or_eq_of_mem_set hz with y | y
          · exact hbm z y
          · rw [y]; exact hlast
        refine ⟨_, rfl, _, rfl, _, rfl, rfl, rfl, D, res.2.1, w, res.1.set res.2.1 last, rfl, hw, ⟨.inl oneS.d, by rw [List.length_set]; omega, hbs⟩, by rw [List.length_set]; omega, fun H9 z s9 rz => ?_⟩
        have one9 := oneS.same s9
        generalize goUp w 20 (res.1.set res.2.1 last) res.2.1 [res.2.1] 0 = u at *
        obtain ⟨dz, z1, z2, g1, g2, g3⟩ := rz
        refine ⟨_, rfl, .inr (.inl ⟨t, _, _, _, rfl, rfl, SqT.of (one9.e _ _ e1 (fun ps z => nomatch z)), at0, ?_⟩)⟩
        refine ⟨_, rfl, z, A.CS, dz, _, _, rfl, g1, T.cTS, T.nRow, zf_row _ _ _, _, rfl, z, A.CS, dz, _, _, rfl, g1, T.cTS, T.nWay, zf_way _ _ _, _, rfl, _, rfl, z, A.CS, dz, _, _, rfl, g1, T.cTS, T.nLooks, zf_looks _ _ _, _, _, rfl, rfl, fun x dx2 nx ndx nex => ?_⟩
        have s3 := new_up (C := A.CS) nx ndx nex
        refine ⟨x, dx2, z1, z2, res.2.2 + u.2.2, u.1, wz u.2.1, rfl, upd_same, .inr (s3 _ _ g2), .inr (s3 _ _ g3), fun G6 k6 sx => ⟨rfl, by show 2 ≤ sizeLine; decide, fun y ny => ?_⟩⟩
        have s6 := (new_same nx ndx k6).trans (Same.up (o := .tup [V.int (ks.getD 0 0), V.ref x]) ny)
        exact q _ y ((extN_of s1).trans (one9.e.trans (extN_of s6))) (one9.t.ext s6) ⟨x, upd_same, sx.same (Same.up ny)⟩
theorem kb_th (T : Tx K mg A) : ∃ mv : List Value, KBn K A.d_take_by_hole ["row", "arms"] 1 ["arms"] (fun us ws => us ++ (mv ++ ws)) (fun vs zs => vs ++ zs) := by
  obtain ⟨mv, h⟩ := T.F_take_by_hole.kbinds0 (ps := ["row", "arms"]) 1 ["arms"] [] (fun us mv ws => us ++ (mv ++ ws)) (by simp) (by simp) (fun r1 r2 r3 => r1.append (r2.append r3))
    (fun D doc pm an cdv ct us mv ws h1 h2 h3 => by
      match us, mv, ws, h1, h2, h3 with
      | [a], [], [c], _, _, _ => rfl)
  exact ⟨mv, h⟩

end
end Tw

set_option Elab.async false
set_option linter.all false
set_option maxRecDepth 100000
set_option maxHeartbeats 2000000
namespace Tw
open PySem PySem.Spec PyProof.Rows L2
section
variable {P : Program} {w : World} {K : PySem.W.Frag} {mg : Str → Option Value} {base : Heap} {A : Ad}
/-! what the deeds do to a heap -/
def HeapL (n w : Nat) (ks : List Int) : Prop := ∀ c, 1 ≤ c → c < n → keyAt ks ((c - 1) / w) ≤ keyAt ks c
theorem par_lt {w c : Nat} (h : 1 ≤ c) : (c - 1) / w < c := Nat.lt_of_le_of_lt (Nat.div_le_self _ _) (by omega)
theorem heapL_good {n w : Nat} {ks : List Int} (h : HeapL n w ks) : GoodFrom n w ks 0 := fun p _ hp c hc => by
  obtain ⟨h1, h2, h3⟩ := mem_kid.mp hc
  have := h c h1 h2
  rw [h3] at this
  exact this
theorem good_heapL {n w : Nat} {ks : List Int} (h : GoodFrom n w ks 0) : HeapL n w ks := fun c h1 h2 =>
  h ((c - 1) / w) (Nat.zero_le _) (by have := par_lt (w := w) h1; omega) c (mem_kid.mpr ⟨h1, h2, rfl⟩)
theorem heap_fault {n w : Nat} {ks : List Int} (hl : ks.length = n) (h : HeapL n w ks) : faultL ks w = [] := by
  refine List.eq_nil_iff_forall_not_mem.mpr fun p hp => ?_
  unfold faultL at hp
  obtain ⟨h1, h2⟩ := List.mem_filter.mp hp
  unfold faultB at h2
  obtain ⟨h3, h4⟩ := Bool.and_eq_true_iff.mp h2
  have h1 := List.mem_range.mp h1
  have h3 := of_decide_eq_true h3
  have h4 := of_decide_eq_true h4
  have := h p (by omega) (by omega)
  unfold keyAt at this
  omega
theorem root_least {n w : Nat} {ks : List Int} (h : HeapL n w ks) : ∀ c, c < n → keyAt ks 0 ≤ keyAt ks c := fun c => by
  induction c using Nat.strongRecOn with
  | _ c ih =>
    intro hc
    by_cases h0 : c = 0
    · rw [h0]; exact Int.le_refl _
    · have a := ih ((c - 1) / w) (par_lt (by omega)) (by have := par_lt (w := w) (c := c) (by omega); omega)
      exact Int.le_trans a (h c (by omega) hc)
theorem root_least_mem {w : Nat} {ks : List Int} (h : HeapL ks.length w ks) : ∀ z ∈ ks, ks.getD 0 0 ≤ z := fun z hz => by
  obtain ⟨i, hi, e⟩ := List.mem_iff_getElem.mp hz
  have := root_least h i hi
  unfold keyAt at this
  rw [List.getD_eq_getElem?_getD (i := i), List.getElem?_eq_getElem hi] at this
  rw [← e]
  exact this
theorem up_good {n w : Nat} : ∀ (f : Nat) (ks : List Int) (cur : Nat) (way : List Nat) (lk : Nat), ks.length = n → cur < n → cur ≤ f →
    (∀ c, 1 ≤ c → c < n → c ≠ cur → keyAt ks ((c - 1) / w) ≤ keyAt ks c) → (∀ c, 1 ≤ c → c < n → (c - 1) / w = cur → cur ≠ 0 → keyAt ks ((cur - 1) / w) ≤ keyAt ks c) → HeapL n w (goUp w f ks cur way lk).1
  | 0, ks, cur, way, lk, hl, hc, hf, g, up => fun c h1 h2 => g c h1 h2 (by omega)
  | f + 1, ks, cur, way, lk, hl, hc, hf, g, up => by
    by_cases h0 : cur = 0
    · subst h0
      rw [goUp_root]
      exact fun c h1 h2 => g c h1 h2 (by omega)
    · have hp := par_lt (w := w) (c := cur) (by omega)
      by_cases hlt : keyAt ks cur < keyAt ks ((cur - 1) / w)
      · rw [goUp_go h0 hlt]
        generalize ep : (cur - 1) / w = p at *
        have ka : cur < ks.length := by omega
        have kb : p < ks.length := by omega
        refine up_good f _ p _ _ (by rw [swp_len]; exact hl) (by omega) (by omega) (fun c h1 h2 hcp => ?_) (fun c h1 h2 hcp hp0 => ?_)
        · rw [keyAt_swp ka kb, keyAt_swp ka kb, if_neg hcp]
          by_cases ec : c = cur
          · subst ec
            rw [ep, if_pos rfl, if_pos rfl]
            omega
          · rw [if_neg ec]
            by_cases e1 : (c - 1) / w = p
            · rw [if_pos e1]
              have := g c h1 h2 ec
              rw [e1] at this
              omega
            · rw [if_neg e1]
              by_cases e2 : (c - 1) / w = cur
              · rw [if_pos e2]
                exact up c h1 h2 e2 h0
              · rw [if_neg e2]
                exact g c h1 h2 ec
        · have hpp := par_lt (w := w) (c := p) (by omega)
          have hc1 := par_lt (w := w) h1
          have a := g p (by omega) (by omega) (by omega)
          rw [keyAt_swp ka kb, keyAt_swp ka kb, if_neg (by omega), if_neg (by omega), if_neg (by omega)]
          by_cases ec : c = cur
          · rw [if_pos ec]
            exact a
          · rw [if_neg ec]
            have b := g c h1 h2 ec
            rw [hcp] at b
            omega
      · rw [goUp_stay h0 hlt]
        intro c h1 h2
        by_cases ec : c = cur
        · subst ec
          exact Int.not_lt.mp hlt
        · exact g c h1 h2 ec
theorem up_perm {w : Nat} : ∀ (f : Nat) (ks : List Int) (cur : Nat) (way : List Nat) (lk : Nat), cur < ks.length → ((goUp w f ks cur way lk).1).Perm ks
  | 0, ks, cur, way, lk, hc => List.Perm.refl _
  | f + 1, ks, cur, way, lk, hc => by
    by_cases h0 : cur = 0
    · subst h0
      rw [goUp_root]
    · have hp := par_lt (w := w) (c := cur) (by omega)
      by_cases hlt : keyAt ks cur < keyAt ks ((cur - 1) / w)
      · rw [goUp_go h0 hlt]
        exact (up_perm f _ _ _ _ (by rw [swp_len]; omega)).trans (swp_perm hc (by omega))
      · rw [goUp_stay h0 hlt]
theorem keyAt_app {ks : List Int} {k : Int} {p : Nat} (h : p < ks.length) : keyAt (ks ++ [k]) p = keyAt ks p := by
  unfold keyAt
  rw [List.getD_eq_getElem?_getD, List.getD_eq_getElem?_getD, List.getElem?_append_left h]
theorem push_ok {w : Nat} {ks : List Int} {k : Int} (hl : ks.length < 12) (h : HeapL ks.length w ks) : HeapL (ks.length + 1) w (goUp w 20 (ks ++ [k]) ks.length [ks.length] 0).1 ∧ ((goUp w 20 (ks ++ [k]) ks.length [ks.length] 0).1).Perm (ks ++ [k]) := by
  have hl2 : (ks ++ [k]).length = ks.length + 1 := by rw [List.length_append]; rfl
  refine ⟨up_good 20 _ _ _ _ hl2 (by omega) (by omega) (fun c h1 h2 hc => ?_) (fun c h1 h2 hc _ => ?_), up_perm 20 _ _ _ _ (by omega)⟩
  · have := par_lt (w := w) h1
    rw [keyAt_app (by omega), keyAt_app (by omega)]
    exact h c h1 (by omega)
  · have := par_lt (w := w) h1
    omega
theorem hole_pre {n w : Nat} (hw : 1 ≤ w) : ∀ (f : Nat) (ks : List Int) (h lk : Nat), ks.length = n → h < n → n - h ≤ f →
    (∀ c, 1 ≤ c → c < n → c ≠ h → (c - 1) / w ≠ h → keyAt ks ((c - 1) / w) ≤ keyAt ks c) → (∀ c, 1 ≤ c → c < n → (c - 1) / w = h → h ≠ 0 → keyAt ks ((h - 1) / w) ≤ keyAt ks c) →
    kidL n w (goHole n w f ks h lk).2.1 = [] ∧ ∀ c, 1 ≤ c → c < n → c ≠ (goHole n w f ks h lk).2.1 → (c - 1) / w ≠ (goHole n w f ks h lk).2.1 → keyAt (goHole n w f ks h lk).1 ((c - 1) / w) ≤ keyAt (goHole n w f ks h lk).1 c
  | 0, ks, h, lk, hl, hh, hf, a, b => absurd hf (by omega)
  | f + 1, ks, h, lk, hl, hh, hf, a, b => by
    by_cases h0 : kidL n w h = []
    · rw [hole_leaf h0]
      exact ⟨h0, a⟩
    · generalize eb : leastC ks (kidL n w h) = m
      have hm : m ∈ kidL n w h := eb ▸ least_mem h0
      have hle : ∀ c ∈ kidL n w h, keyAt ks m ≤ keyAt ks c := fun c hc => eb ▸ least_le hc
      obtain ⟨b1, b2⟩ := kid_in hw hm
      obtain ⟨m1, m2, m3⟩ := mem_kid.mp hm
      rw [hole_go h0 eb]
      have ka : h < ks.length := by omega
      refine hole_pre hw f _ m _ (by rw [List.length_set]; exact hl) b2 (by omega) (fun c h1 h2 hc hpc => ?_) (fun c h1 h2 hc _ => ?_)
      · have hp := par_lt (w := w) h1
        rw [keyAt_set ka, keyAt_set ka]
        by_cases e1 : c = h
        · subst e1
          rw [if_pos rfl, if_neg (by omega)]
          exact b m m1 m2 m3 (by omega)
        · rw [if_neg e1]
          by_cases e2 : (c - 1) / w = h
          · rw [if_pos e2]
            exact hle c (mem_kid.mpr ⟨h1, h2, e2⟩)
          · rw [if_neg e2]
            exact a c h1 h2 e1 e2
      · have hp := par_lt (w := w) h1
        rw [m3, keyAt_set ka, keyAt_set ka, if_pos rfl, if_neg (by omega)]
        have := a c h1 h2 (by omega) (by omega)
        rw [hc] at this
        exact this
theorem hole_perm {n w : Nat} (hw : 1 ≤ w) (x : Int) : ∀ (f : Nat) (ks : List Int) (h lk : Nat), ks.length = n → h < n → (((goHole n w f ks h lk).1).set (goHole n w f ks h lk).2.1 x).Perm (ks.set h x)
  | 0, ks, h, lk, hl, hh => List.Perm.refl _
  | f + 1, ks, h, lk, hl, hh => by
    by_cases h0 : kidL n w h = []
    · rw [hole_leaf h0]
    · generalize eb : leastC ks (kidL n w h) = m
      have hm : m ∈ kidL n w h := eb ▸ least_mem h0
      obtain ⟨b1, b2⟩ := kid_in hw hm
      rw [hole_go h0 eb]
      refine (hole_perm hw x f _ m _ (by rw [List.length_set]; exact hl) b2).trans ?_
      have e : (ks.set h (keyAt ks m)).set m x = swp (ks.set h x) h m := by
        unfold swp
        rw [keyAt_set (by omega), keyAt_set (by omega), if_pos rfl, if_neg (by omega), List.set_set]
      rw [e]
      exact swp_perm (by rw [List.length_set]; omega) (by rw [List.length_set]; omega)
theorem outRow_key {ks : List Int} {p : Nat} (h1 : 1 ≤ p) (h2 : p < ks.length - 1) : keyAt (outRow ks) p = keyAt ks p := by
  unfold keyAt outRow
  obtain ⟨p, rfl⟩ : ∃ p', p = p' + 1 := ⟨p - 1, by omega⟩
  rw [List.getD_eq_getElem?_getD, List.getD_eq_getElem?_getD, List.getElem?_cons_succ, List.getElem?_take_of_lt (by omega), List.getElem?_drop, Nat.add_comm 1 p]
  rfl
theorem head_cons {ks : List Int} (h : 1 ≤ ks.length) : ks = ks.getD 0 0 :: ks.drop 1 := by
  cases ks with
  | nil => exact absurd h (by decide)
  | cons a b => rfl
theorem outRow_perm {ks : List Int} (h : 2 ≤ ks.length) : (ks.getD 0 0 :: outRow ks).Perm ks := by
  have e := head_cons (ks := ks) (by omega)
  have d : ks.drop 1 = (ks.drop 1).take (ks.length - 2) ++ [ks.getD (ks.length - 1) 0] := by
    have x : (ks.drop 1).take (ks.length - 2) ++ [(ks.drop 1)[ks.length - 2]'(by rw [List.length_drop]; omega)] = (ks.drop 1).take (ks.length - 2 + 1) := List.take_append_getElem (by rw [List.length_drop]; omega)
    have x2 : (ks.drop 1).take (ks.length - 2 + 1) = ks.drop 1 := List.take_of_length_le (by rw [List.length_drop]; omega)
    have y : (ks.drop 1)[ks.length - 2]'(by rw [List.length_drop]; omega) = ks.getD (ks.length - 1) 0 := by
      rw [List.getElem_drop, List.getD_eq_getElem?_getD, List.getElem?_eq_getElem (by omega)]
      simp only [Option.getD_some]
      congr 1
      omega
    rw [y] at x
    exact x2.symm.trans x.symm
  have p : (outRow ks).Perm (ks.drop 1) := by
    refine List.Perm.trans (?_ : (outRow ks).Perm ((ks.drop 1).take (ks.length - 2) ++ [ks.getD (ks.length - 1) 0])) (List.Perm.of_eq d.symm)
    unfold outRow
    exact (List.perm_append_singleton _ _).symm
  exact (List.Perm.cons _ p).trans (List.Perm.of_eq e.symm)
theorem take_ok {w : Nat} (hw : 1 ≤ w) {ks : List Int} (hl : ks.length ≤ 12) (hp : 1 ≤ ks.length) (h : HeapL ks.length w ks) :
    (takeR ks w).1.length = ks.length - 1 ∧ HeapL (ks.length - 1) w (takeR ks w).1 ∧ (ks.getD 0 0 :: (takeR ks w).1).Perm ks := by
  unfold takeR
  by_cases h1 : ks.length = 1
  · rw [if_pos h1]
    refine ⟨by rw [h1]; rfl, fun c h2 h3 => by omega, ?_⟩
    have e := head_cons hp
    rw [List.drop_eq_nil_of_le (by omega)] at e
    exact List.Perm.of_eq e.symm
  · rw [if_neg h1]
    have h2 : 2 ≤ ks.length := by omega
    have hlo := outRow_len h2
    refine ⟨by rw [down_res]; exact hlo, good_heapL (down_good hw 20 _ 0 _ _ hlo (Nat.le_refl _) (by omega) (by omega) (fun p _ hp2 hp0 c hc => ?_) (fun q _ _ hq => ?_)), ?_⟩
    · obtain ⟨m1, m2, m3⟩ := mem_kid.mp hc
      rw [outRow_key (by omega) hp2, outRow_key m1 m2]
      have := h c m1 (by omega)
      rw [m3] at this
      exact this
    · have := (kid_in hw hq).1
      omega
    · exact (List.Perm.cons _ (down_perm hw 20 _ _ _ _ hlo (by omega))).trans (outRow_perm h2)
theorem take_set {ks : List Int} (h : 2 ≤ ks.length) : (ks.take (ks.length - 1)).set 0 (ks.getD (ks.length - 1) 0) = outRow ks := by
  have e := head_cons (ks := ks) (by omega)
  obtain ⟨n, en⟩ : ∃ n, ks.length = n + 2 := ⟨ks.length - 2, by omega⟩
  unfold outRow
  rw [en]
  generalize ks.getD (n + 2 - 1) 0 = x
  rw [e]
  rfl
theorem hole_ok {w : Nat} (hw : 1 ≤ w) {ks : List Int} (hl : ks.length ≤ 12) (hp : 1 ≤ ks.length) (h : HeapL ks.length w ks) :
    (holeR ks w).1.length = ks.length - 1 ∧ HeapL (ks.length - 1) w (holeR ks w).1 ∧ (ks.getD 0 0 :: (holeR ks w).1).Perm ks := by
  unfold holeR
  by_cases h1 : ks.length = 1
  · rw [if_pos h1]
    refine ⟨by rw [h1]; rfl, fun c h2 h3 => by omega, ?_⟩
    have e := head_cons hp
    rw [List.drop_eq_nil_of_le (by omega)] at e
    exact List.Perm.of_eq e.symm
  · rw [if_neg h1]
    have h2 : 2 ≤ ks.length := by omega
    have hl0 : (ks.take (ks.length - 1)).length = ks.length - 1 := by rw [List.length_take]; omega
    have kt : ∀ p, p < ks.length - 1 → keyAt (ks.take (ks.length - 1)) p = keyAt ks p := fun p hp => by
      unfold keyAt
      rw [List.getD_eq_getElem?_getD, List.getD_eq_getElem?_getD, List.getElem?_take_of_lt hp]
    obtain ⟨p1, p2⟩ := hole_pre hw 20 (ks.take (ks.length - 1)) 0 0 hl0 (by omega) (by omega) (fun c c1 c2 _ _ => by
      have := par_lt (w := w) c1
      rw [kt _ (by omega), kt _ c2]
      exact h c c1 (by omega)) (fun c _ _ _ z => absurd rfl z)
    have p3 := hole_perm hw (ks.getD (ks.length - 1) 0) 20 (ks.take (ks.length - 1)) 0 0 hl0 (by omega)
    rw [take_set h2] at p3
    have p4 := hole_len (ks.length - 1) w 20 (ks.take (ks.length - 1)) 0 0
    have p5 := hole_lt (n := ks.length - 1) hw 20 (ks.take (ks.length - 1)) 0 0 (by omega)
    generalize ks.getD (ks.length - 1) 0 = x at *
    generalize goHole (ks.length - 1) w 20 (ks.take (ks.length - 1)) 0 0 = r at *
    have hls : (r.1.set r.2.1 x).length = ks.length - 1 := by rw [List.length_set]; omega
    have leaf : ∀ c, 1 ≤ c → c < ks.length - 1 → (c - 1) / w ≠ r.2.1 := fun c c1 c2 z => by
      have : c ∈ kidL (ks.length - 1) w r.2.1 := mem_kid.mpr ⟨c1, c2, z⟩
      rw [p1] at this
      cases this
    show (goUp w 20 (r.1.set r.2.1 x) r.2.1 [r.2.1] 0).1.length = _ ∧ HeapL _ w (goUp w 20 (r.1.set r.2.1 x) r.2.1 [r.2.1] 0).1 ∧ (_ :: (goUp w 20 (r.1.set r.2.1 x) r.2.1 [r.2.1] 0).1).Perm ks
    refine ⟨by rw [up_res]; exact hls, up_good 20 _ _ _ _ hls p5 (by omega) (fun c c1 c2 hc => ?_) (fun c c1 c2 hc _ => absurd hc (leaf c c1 c2)), ?_⟩
    · rw [keyAt_set (by omega), keyAt_set (by omega), if_neg (leaf c c1 c2), if_neg hc]
      exact p2 c c1 c2 hc (leaf c c1 c2)
    · exact (List.Perm.cons _ ((up_perm 20 _ _ _ _ (by rw [hls]; exact p5)).trans p3)).trans (outRow_perm h2)
theorem put_ok {w : Nat} (hw : 1 ≤ w) {k : Int} {ks : List Int} (hl : ks.length ≤ 12) (hp : 1 ≤ ks.length) (h : HeapL ks.length w ks) :
    (goDown ks.length w 20 (putRow k ks) 0 [0] 0).1.length = ks.length ∧ HeapL ks.length w (goDown ks.length w 20 (putRow k ks) 0 [0] 0).1 ∧ (ks.getD 0 0 :: (goDown ks.length w 20 (putRow k ks) 0 [0] 0).1).Perm (k :: ks) := by
  have hlp := putRow_len (k := k) hp
  have key : ∀ p, 1 ≤ p → keyAt (putRow k ks) p = keyAt ks p := fun p h1 => by
    unfold keyAt putRow
    obtain ⟨p, rfl⟩ : ∃ p', p = p' + 1 := ⟨p - 1, by omega⟩
    rw [List.getD_eq_getElem?_getD, List.getD_eq_getElem?_getD, List.getElem?_cons_succ, List.getElem?_drop, Nat.add_comm 1 p]
  refine ⟨by rw [down_res]; exact hlp, good_heapL (down_good hw 20 _ 0 _ _ hlp (Nat.le_refl _) (by omega) (by omega) (fun p _ hp2 hp0 c hc => ?_) (fun q _ _ hq => ?_)), ?_⟩
  · obtain ⟨m1, m2, m3⟩ := mem_kid.mp hc
    rw [key p (by omega), key c m1]
    have := h c m1 m2
    rw [m3] at this
    exact this
  · have := (kid_in hw hq).1
    omega
  · refine (List.Perm.cons _ (down_perm hw 20 _ _ _ _ hlp (by omega))).trans ?_
    refine (List.Perm.swap _ _ _).trans ?_
    exact List.Perm.cons _ (List.Perm.of_eq (head_cons hp).symm)

end
end Tw

set_option Elab.async false
set_option linter.all false
set_option maxRecDepth 100000
set_option maxHeartbeats 2000000
namespace Tw
open PySem PySem.Spec PyProof.Rows L2
section
variable {P : Program} {w : World} {K : PySem.W.Frag} {mg : Str → Option Value} {base : Heap} {A : Ad}
/-! both ways of taking out leave the same row -/
theorem up_row {w : Nat} : ∀ (f f' : Nat) (ks : List Int) (p : Nat) (way way' : List Nat) (lk lk' : Nat), p ≤ f → p ≤ f' → (goUp w f ks p way lk).1 = (goUp w f' ks p way' lk').1
  | 0, f', ks, p, way, way', lk, lk', h, _ => by
    obtain rfl : p = 0 := by omega
    rw [goUp_root, goUp_root]
  | f + 1, 0, ks, p, way, way', lk, lk', _, h => by
    obtain rfl : p = 0 := by omega
    rw [goUp_root, goUp_root]
  | f + 1, f' + 1, ks, p, way, way', lk, lk', h, h' => by
    by_cases h0 : p = 0
    · subst h0
      rw [goUp_root, goUp_root]
    · have hp := par_lt (w := w) (c := p) (by omega)
      by_cases hx : keyAt ks p < keyAt ks ((p - 1) / w)
      · rw [goUp_go h0 hx, goUp_go h0 hx]
        exact up_row f f' _ _ _ _ _ _ (by omega) (by omega)
      · rw [goUp_stay h0 hx, goUp_stay h0 hx]
/-- the row behind x at p, which goes up -/
def upV (w : Nat) (ks : List Int) (p : Nat) (x : Int) : List Int := (goUp w 20 (ks.set p x) p [p] 0).1
theorem upV_stay {w : Nat} {ks : List Int} {p : Nat} {x : Int} (hp : p < ks.length) (h20 : p < 20) (h : p = 0 ∨ keyAt ks ((p - 1) / w) ≤ x) : upV w ks p x = ks.set p x := by
  unfold upV
  by_cases h0 : p = 0
  · subst h0
    rw [goUp_root]
  · have := par_lt (w := w) (c := p) (by omega)
    rw [goUp_stay h0 (by
      rw [keyAt_set hp, keyAt_set hp, if_pos rfl, if_neg (by omega)]
      rcases h with h | h <;> omega)]
theorem set_key {ks : List Int} {c : Nat} : ks.set c (keyAt ks c) = ks := by
  refine List.ext_getElem? fun i => ?_
  rw [List.getElem?_set]
  by_cases h : c = i
  · subst h
    rw [if_pos rfl]
    unfold keyAt
    by_cases hc : c < ks.length
    · rw [if_pos hc, List.getD_eq_getElem?_getD, List.getElem?_eq_getElem hc]
      rfl
    · rw [if_neg hc, List.getElem?_eq_none (by omega)]
  · rw [if_neg h]
theorem upV_step {w : Nat} {ks : List Int} {h c : Nat} {x : Int} (hl : ks.length ≤ 20) (hc : c < ks.length) (h1 : 1 ≤ c) (hpar : (c - 1) / w = h) (hx : x ≤ keyAt ks c) (hh : h = 0 ∨ keyAt ks ((h - 1) / w) ≤ keyAt ks c) :
    upV w (ks.set h (keyAt ks c)) c x = upV w ks h x := by
  have hlt := par_lt (w := w) h1
  rw [hpar] at hlt
  have hh2 : h < ks.length := by omega
  by_cases hs : x < keyAt ks c
  · unfold upV
    have kc : keyAt ((ks.set h (keyAt ks c)).set c x) c = x := by rw [keyAt_set (by rw [List.length_set]; exact hc), if_pos rfl]
    have kh : keyAt ((ks.set h (keyAt ks c)).set c x) h = keyAt ks c := by rw [keyAt_set (by rw [List.length_set]; exact hc), if_neg (by omega), keyAt_set hh2, if_pos rfl]
    have e : swp ((ks.set h (keyAt ks c)).set c x) c h = ks.set h x := by
      unfold swp
      rw [kc, kh, List.set_set]
      have : (ks.set h (keyAt ks c)).set c (keyAt ks c) = ks.set h (keyAt ks c) := by
        have e2 := set_key (ks := ks.set h (keyAt ks c)) (c := c)
        rw [keyAt_set hh2, if_neg (by omega)] at e2
        exact e2
      rw [this, List.set_set]
    rw [goUp_go (f := 19) (by omega) (by rw [hpar, kc, kh]; exact hs), hpar, e]
    exact up_row 19 20 _ _ _ _ _ _ (by omega) (by omega)
  · have ex : x = keyAt ks c := by omega
    rw [upV_stay (by rw [List.length_set]; exact hc) (by omega) (.inr (by rw [hpar, keyAt_set hh2, if_pos rfl]; omega)), upV_stay hh2 (by omega) (by rcases hh with y | y; exact .inl y; exact .inr (by omega))]
    rw [List.set_comm _ _ (by omega), ex, set_key]
def holePre (n w : Nat) (ks : List Int) (h : Nat) : Prop := (∀ c, 1 ≤ c → c < n → c ≠ h → (c - 1) / w ≠ h → keyAt ks ((c - 1) / w) ≤ keyAt ks c) ∧ ∀ c, 1 ≤ c → c < n → (c - 1) / w = h → h ≠ 0 → keyAt ks ((h - 1) / w) ≤ keyAt ks c
theorem holePre_step {n w : Nat} (hw : 1 ≤ w) {ks : List Int} {h m : Nat} (hl : ks.length = n) (hh : h < n) (p : holePre n w ks h) (h0 : kidL n w h ≠ []) (eb : leastC ks (kidL n w h) = m) : holePre n w (ks.set h (keyAt ks m)) m := by
  obtain ⟨a, b⟩ := p
  have hm : m ∈ kidL n w h := eb ▸ least_mem h0
  have hle : ∀ c ∈ kidL n w h, keyAt ks m ≤ keyAt ks c := fun c hc => eb ▸ least_le hc
  obtain ⟨b1, b2⟩ := kid_in hw hm
  obtain ⟨m1, m2, m3⟩ := mem_kid.mp hm
  have ka : h < ks.length := by omega
  refine ⟨fun c h1 h2 hc hpc => ?_, fun c h1 h2 hc _ => ?_⟩
  · have hp := par_lt (w := w) h1
    rw [keyAt_set ka, keyAt_set ka]
    by_cases e1 : c = h
    · subst e1
      rw [if_pos rfl, if_neg (by omega)]
      exact b m m1 m2 m3 (by omega)
    · rw [if_neg e1]
      by_cases e2 : (c - 1) / w = h
      · rw [if_pos e2]
        exact hle c (mem_kid.mpr ⟨h1, h2, e2⟩)
      · rw [if_neg e2]
        exact a c h1 h2 e1 e2
  · have hp := par_lt (w := w) h1
    rw [m3, keyAt_set ka, keyAt_set ka, if_pos rfl, if_neg (by omega)]
    have := a c h1 h2 (by omega) (by omega)
    rw [hc] at this
    exact this
theorem hole_low {n w : Nat} (hw : 1 ≤ w) (hn : n ≤ 12) (x : Int) : ∀ (f : Nat) (ks : List Int) (h lk : Nat), ks.length = n → h < n → n - h ≤ f → holePre n w ks h → (kidL n w h = [] ∨ x ≤ keyAt ks (leastC ks (kidL n w h))) →
    upV w (goHole n w f ks h lk).1 (goHole n w f ks h lk).2.1 x = upV w ks h x
  | 0, ks, h, lk, hl, hh, hf, _, _ => absurd hf (by omega)
  | f + 1, ks, h, lk, hl, hh, hf, pre, hx => by
    by_cases h0 : kidL n w h = []
    · rw [hole_leaf h0]
    · generalize eb : leastC ks (kidL n w h) = m at hx
      have hm : m ∈ kidL n w h := eb ▸ least_mem h0
      obtain ⟨b1, b2⟩ := kid_in hw hm
      obtain ⟨m1, m2, m3⟩ := mem_kid.mp hm
      rw [hole_go h0 eb]
      have hx2 : x ≤ keyAt ks m := hx.resolve_left h0
      have ka : h < ks.length := by omega
      rw [hole_low hw hn x f _ m _ (by rw [List.length_set]; exact hl) b2 (by omega) (holePre_step hw hl hh pre h0 eb) ?_]
      · exact upV_step (by omega) (by omega) m1 m3 hx2 (by
          by_cases z : h = 0
          · exact .inl z
          · exact .inr (pre.2 m m1 m2 m3 z))
      · by_cases k0 : kidL n w m = []
        · exact .inl k0
        · refine .inr (Int.le_trans hx2 ?_)
          have hm2 := least_mem (ks := ks.set h (keyAt ks m)) k0
          obtain ⟨c1, c2, c3⟩ := mem_kid.mp hm2
          have hp := par_lt (w := w) c1
          rw [keyAt_set ka, if_neg (by omega)]
          have := pre.1 _ c1 c2 (by omega) (by omega)
          rw [c3] at this
          exact this
theorem leastC_congr {a b : List Int} {l : List Nat} (h0 : l ≠ []) (h : ∀ c ∈ l, keyAt a c = keyAt b c) : leastC a l = leastC b l := by
  obtain ⟨n, en⟩ : ∃ n, l.length = n + 1 := ⟨l.length - 1, by have := List.length_pos_iff.mpr h0; omega⟩
  have e := Cl.best_is (fun i => keyAt b (l.getD i 0)) n
  rw [← en] at e
  rw [← least_of e]
  refine (least_of ?_).symm
  have k : ∀ i, i < l.length → keyAt a (l.getD i 0) = keyAt b (l.getD i 0) := fun i hi => h _ (by
    rw [List.getD_eq_getElem?_getD, List.getElem?_eq_getElem hi]
    exact List.getElem_mem hi)
  obtain ⟨e1, e2, e3⟩ := e
  refine ⟨e1, fun i hi => ?_, fun i hi => ?_⟩
  · show keyAt a _ ≤ keyAt a _
    rw [k _ hi, k _ e1]
    exact e2 i hi
  · show keyAt a _ < keyAt a _
    rw [k _ (Nat.lt_trans hi e1), k _ e1]
    exact e3 i hi
theorem down_hole {n w : Nat} (hw : 1 ≤ w) (hn : n ≤ 12) (x : Int) : ∀ (f : Nat) (ks : List Int) (h lk lk2 : Nat) (way : List Nat), ks.length = n → h < n → n - h ≤ f → holePre n w ks h → (h = 0 ∨ keyAt ks ((h - 1) / w) ≤ x) →
    (goDown n w f (ks.set h x) h way lk2).1 = upV w (goHole n w f ks h lk).1 (goHole n w f ks h lk).2.1 x
  | 0, ks, h, lk, lk2, way, hl, hh, hf, _, _ => absurd hf (by omega)
  | f + 1, ks, h, lk, lk2, way, hl, hh, hf, pre, hx => by
    have ka : h < ks.length := by omega
    by_cases h0 : kidL n w h = []
    · rw [hole_leaf h0, goDown_leaf h0, upV_stay ka (by omega) hx]
    · have ec : leastC (ks.set h x) (kidL n w h) = leastC ks (kidL n w h) := leastC_congr h0 fun c hc => by
        have := (kid_in hw hc).1
        rw [keyAt_set ka, if_neg (by omega)]
      generalize eb : leastC ks (kidL n w h) = m at ec
      have hm : m ∈ kidL n w h := eb ▸ least_mem h0
      obtain ⟨b1, b2⟩ := kid_in hw hm
      obtain ⟨m1, m2, m3⟩ := mem_kid.mp hm
      have k1 : keyAt (ks.set h x) m = keyAt ks m := by rw [keyAt_set ka, if_neg (by omega)]
      have k2 : keyAt (ks.set h x) h = x := by rw [keyAt_set ka, if_pos rfl]
      by_cases hs : keyAt ks m < x
      · rw [goDown_go h0 ec (by rw [k1, k2]; exact hs), hole_go h0 eb]
        have es : swp (ks.set h x) h m = (ks.set h (keyAt ks m)).set m x := by
          unfold swp
          rw [k1, k2, List.set_set]
        rw [es]
        exact down_hole hw hn x f _ m _ _ _ (by rw [List.length_set]; exact hl) b2 (by omega) (holePre_step hw hl hh pre h0 eb) (.inr (by rw [m3, keyAt_set ka, if_pos rfl]; omega))
      · rw [goDown_stay h0 (by rw [ec, k1, k2]; exact hs), hole_low hw hn x (f + 1) ks h lk hl hh hf pre (.inr (by rw [eb]; omega)), upV_stay ka (by omega) hx]
theorem both_ways {w : Nat} (hw : 1 ≤ w) {ks : List Int} (hl : ks.length ≤ 12) (hp : 1 ≤ ks.length) (h : HeapL ks.length w ks) : (takeR ks w).1 = (holeR ks w).1 := by
  unfold takeR holeR
  by_cases h1 : ks.length = 1
  · rw [if_pos h1, if_pos h1]
  · rw [if_neg h1, if_neg h1]
    by_cases h2 : 2 ≤ ks.length
    · have hl0 : (ks.take (ks.length - 1)).length = ks.length - 1 := by rw [List.length_take]; omega
      have kt : ∀ p, p < ks.length - 1 → keyAt (ks.take (ks.length - 1)) p = keyAt ks p := fun p hp => by
        unfold keyAt
        rw [List.getD_eq_getElem?_getD, List.getD_eq_getElem?_getD, List.getElem?_take_of_lt hp]
      rw [← take_set h2]
      exact down_hole hw (by omega) (ks.getD (ks.length - 1) 0) 20 (ks.take (ks.length - 1)) 0 0 0 [0] hl0 (by omega) (by omega) ⟨fun c c1 c2 _ _ => by
        have := par_lt (w := w) c1
        rw [kt _ (by omega), kt _ c2]
        exact h c c1 (by omega), fun c _ _ _ z => absurd rfl z⟩ (.inl rfl)
    · exact absurd h2 (by omega)

def rMinTu (K : PySem.W.Frag) : List V → Hp → VK → Prop := fun vs H Q => ∃ (a : Addr) (ns : List Int), vs = [V.ref a] ∧ SqT K H a (ns.map V.int) ∧ 0 < ns.length ∧ ∀ m, m ∈ ns → (∀ y, y ∈ ns → m ≤ y) → Q (.int m) H
theorem ints_val : ∀ {vs : List Value} {ns : List Int}, IntsAre vs ns → ∀ i v, vs[i]? = some v → i < ns.length ∧ ∃ t, v = .int (ns.getD i 0) t
  | _, _, .nil, i, v, h => by simp at h
  | _, _, .cons n t r, 0, v, h => ⟨Nat.succ_pos _, t, (Option.some.inj (show some _ = some v from h)).symm⟩
  | _, _, .cons n t r, i + 1, v, h => by
    obtain ⟨a, u, e⟩ := ints_val r i v (by simpa using h)
    exact ⟨Nat.succ_lt_succ a, u, e⟩
theorem cr_minTu {X : Cx} (hc : X.calm = true) : CallR X (.builtin "min") (rMinTu X.K) := by
  intro pins s σ H vs us Q I r h
  obtain ⟨a, ns, rfl, hs, hne, q⟩ := h
  obtain ⟨its, rv, hl, _⟩ := I.tuple hs
  rw [Vals.ref1 r]
  have hi := rv.ints
  have hlen : its.length = ns.length := hi.length
  have val : ∀ i v, its.toArray[i]? = some v → i < ns.length ∧ ∃ t, v = .int (ns.getD i 0) t := fun i v h => ints_val hi i v (by simpa using h)
  refine call_min_walkH (PySem.W.iter_tupleW (A := X.A.in1) (I.ok.hd hc) hl fun s₂ e W st hfp hw hk => ?_)
  refine ⟨_, _, _, _, _, _, _, s.heap, fun i j => decide (ns.getD i 0 < ns.getD j 0), rfl, W, st, hfp, by rw [List.size_toArray]; omega, hw, hk, fun i j vi vj s' Q E _ hi hj h => CmpOf.ints_lt (fun i => ns.getD i 0) (fun i v h => (val i v h).2) i j vi vj s' Q E hi hj h, fun v s' hP m => ?_⟩
  obtain ⟨h', tk, rfl, hk'⟩ := PySem.W.moved_old e rfl m
  obtain ⟨hb, t, rfl⟩ := val _ v hP
  obtain ⟨_, b2⟩ := argBest_lt (fun i => ns.getD i 0) (its.toArray.size - 1)
  refine ⟨.int _, H, I.kept hk', ⟨_, rfl⟩, q _ ?_ fun y hy => ?_⟩
  · rw [List.getD_eq_getElem?_getD, List.getElem?_eq_getElem hb]
    exact List.getElem_mem hb
  · obtain ⟨j, hj, rfl⟩ := List.mem_iff_getElem.mp hy
    have := b2 j (by rw [List.size_toArray]; omega)
    have e2 : ns.getD j 0 = ns[j] := by rw [List.getD_eq_getElem?_getD, List.getElem?_eq_getElem hj]; rfl
    rw [← e2]
    exact this
end
end Tw

set_option Elab.async false
set_option linter.all false
set_option maxRecDepth 100000
set_option maxHeartbeats 2000000
namespace Tw
open PySem PySem.Spec PyProof.Rows L2
section
variable {P : Program} {w : World} {K : PySem.W.Frag} {mg : Str → Option Value} {base : Heap} {A : Ad}
open LamX (ExtN Tabs TabS)
theorem cr_or {X : Cx} {f : Value} {r1 r2 : List V → Hp → VK → Prop} (h1 : CallR X f r1) (h2 : CallR X f r2) : CallR X f (fun vs H Q => r1 vs H Q ∨ r2 vs H Q) := by
  intro pins s σ H vs us Q I rv h
  rcases h with h | h
  · exact h1 pins s σ H vs us Q I rv h
  · exact h2 pins s σ H vs us Q I rv h
theorem int_le_dec (a b : Int) : (¬ a ≤ b) ↔ b < a := by omega
/-- a heap by pushes -/
def pushAll (w : Nat) (ks : List Int) : Nat → List Int
  | 0 => []
  | i + 1 => (goUp w 20 (pushAll w ks i ++ [ks.getD i 0]) i [i] 0).1
theorem pushAll_ok {w : Nat} {ks : List Int} (hl : ks.length ≤ 12) : ∀ i, i ≤ ks.length → (pushAll w ks i).length = i ∧ HeapL i w (pushAll w ks i) ∧ (pushAll w ks i).Perm (ks.take i)
  | 0, _ => ⟨rfl, fun c h1 h2 => absurd h2 (by omega), List.Perm.refl _⟩
  | i + 1, hi => by
    obtain ⟨h1, h2, h3⟩ := pushAll_ok (w := w) hl i (by omega)
    have hk : i < ks.length := by omega
    obtain ⟨p1, p2⟩ := push_ok (k := ks.getD i 0) (by omega) (by rw [h1]; exact h2 : HeapL (pushAll w ks i).length w (pushAll w ks i))
    rw [h1] at p1 p2
    have e : pushAll w ks (i + 1) = (goUp w 20 (pushAll w ks i ++ [ks.getD i 0]) i [i] 0).1 := rfl
    rw [e]
    refine ⟨by rw [p2.length_eq, List.length_append, h1]; rfl, p1, p2.trans ?_⟩
    rw [← List.take_append_getElem hk, List.getD_eq_getElem?_getD, List.getElem?_eq_getElem hk]
    exact List.Perm.append_right _ h3
def spLH2 : Sp := fun vs H Q _ => ∃ (a w : Nat) (ks : List Int), vs = [.ref a, .int w] ∧ (1 ≤ w ∧ w ≤ 4) ∧ H a = some (.lst (ks.map V.int)) ∧ ks.length ≤ 12 ∧
  ∀ (H' : Hp) (q : Addr) (ms : List Int), Same H H' → HeapL ms.length w ms → ms.Perm ks → H q = none → H' q = some (.lst (ms.map V.int)) → Q (.ref q) H'
theorem ok_lh (T : Tx K mg A) : FnOk P w K mg base CX0 3 A.f__law_heap A.d__law_heap ["keys", "wide"] spLH2 := by
  refine T.F__law_heap.ok sc__law_heap (fun vs H Q E h => ?_) (fun cdv B outer s H vs Q E hr h => ?_)
  · obtain ⟨a, w, ks, rfl, _⟩ := h
    rfl
  · obtain ⟨a, w, ks, rfl, hw, ha, hl, q⟩ := h
    have nd := sc__law_heap.nd
    refine ⟨_, (pss_cons (ps_set (i := 2) nd rfl (Or.inl rfl) (pe_lst pa_nil))
      (pss_cons (ps_for PassesOwn.never rfl (pi_list (pv 0)) (pg_name (i := 3) nd rfl (Or.inl rfl)) (pss_cons (ps_expr (pe_bm PySem.F.plainAttrs_list PySem.F.slot_list_append PySem.F.type_list_append mt_append (pv 2) (pa_cons (pv 3) pa_nil)))
      (C8.pss_cut (ps_set (i := 4) nd rfl (Or.inl rfl) (pe_op op_sub (pe_callB call_len_seq (by rfl) T.g_len PySem.boot_len (pa_cons (pv 2) pa_nil)) pe_int))
      (pss_one (ps_for PassesOwn.never rfl (pi_range1 rfl T.g_range (pa_cons pe_int pa_nil)) (pg_name (i := 5) nd rfl (Or.inl rfl)) (pss_cons (ps_if (PW.pt (pw_or (pt_cmpR op_eq (pv 4) pe_int (nomark _)) (pw_or1 (pt_cmpR op_le (pe_ix ix_list (pv 2) (pe_call (ok_lpar T) (hr.mono (by decide)) (by rfl) T.m__law_parent T.F__law_parent.kp (b_lpar T) .nil pass0 (pa_cons (pv 1) (pa_cons (pv 4) pa_nil))) (fun _ _ => rfl)) (pe_ix ix_list (pv 2) (pv 4) (fun _ _ => rfl)) (nomark _))))) (pss_one ps_break) pss_nil)
      (pss_cons (ps_set (i := 6) nd rfl (Or.inl rfl) (pe_call (ok_lpar T) (hr.mono (by decide)) (by rfl) T.m__law_parent T.F__law_parent.kp (b_lpar T) .nil pass0 (pa_cons (pv 1) (pa_cons (pv 4) pa_nil))))
      (pss_cons (ps_asg (pe_tup (pa_cons (pe_ix ix_list (pv 2) (pv 6) (fun _ _ => rfl)) (pa_cons (pe_ix ix_list (pv 2) (pv 4) (fun _ _ => rfl)) pa_nil))) (pg_tup rfl (pgs_cons (pg_sub (pv 2) (pv 4) set_list) (pgs_cons (pg_sub (pv 2) (pv 6) set_list) pgs_nil))))
      (pss_one (ps_set (i := 4) nd rfl (Or.inl rfl) (pv 6)))))))))))
      (pss_one (ps_ret (pv 2))))), ?_⟩
    refine ⟨Nat.zero_le _, fun D hD => ?_⟩
    refine ⟨_, rfl, a, rfl, ⟨_, SqL.of ((Same.up hD) _ _ ha)⟩, for_list (K := K) (a := a) (xs := ks.map V.int) (fun i σ H' => ∃ (x3 x4 x5 x6 : Option V), σ = [some (.ref a), some (.int w), some (.ref D), x3, x4, x5, x6] ∧ Acc H D ((pushAll w ks i).map V.int) H')
      ⟨none, none, none, none, rfl, Acc.start hD⟩ (fun i σ H' _ ⟨_, _, _, _, _, ac⟩ => SqL.of (ac.s _ _ ha)) ?_ ?_⟩
    · rintro i x σ H1 hx ⟨x3, x4, x5, x6, rfl, ac⟩
      obtain ⟨hi, rfl⟩ := ints_at hx
      obtain ⟨hml, _, _⟩ := pushAll_ok (w := w) hl i (by omega)
      refine ⟨_, rfl, .inl ⟨rfl, _, SqL.of ac.a⟩, _, rfl, D, _, _, rfl, rfl, ac.a, small1000 (by rw [List.length_map]; omega), ?_⟩
      have ek : ks[i] = ks.getD i 0 := by rw [List.getD_eq_getElem?_getD, List.getElem?_eq_getElem hi]; rfl
      rw [map_one]
      have ac1 : Acc H D ((pushAll w ks i ++ [ks[i]]).map V.int) (upd H1 D (.lst ((pushAll w ks i ++ [ks[i]]).map V.int))) := ac.push
      have hml1 : (pushAll w ks i ++ [ks[i]]).length = i + 1 := by rw [List.length_append, hml]; rfl
      have eR : pushAll w ks (i + 1) = (goUp w 20 (pushAll w ks i ++ [ks[i]]) i [i] 0).1 := by rw [ek]; rfl
      rw [eR]
      generalize pushAll w ks i ++ [ks[i]] = m1 at ac1 hml1
      generalize upd H1 D (.lst (m1.map V.int)) = G1 at ac1
      refine ⟨fun σ' H' => σ' = [some (.ref a), some (.int w), some (.ref D), some (.int ks[i]), some (.int (i : Nat)), x5, x6] ∧ H' = G1, ?_, ?_⟩
      · refine ⟨_, rfl, D, _, rfl, .inl (SqL.of ac1.a), _, _, rfl, rfl, ?_, rfl⟩
        show ([some (.ref a), some (.int w), some (.ref D), some (.int ks[i]), some (V.int (((m1.map V.int).length : Nat) - 1 : Int)), x5, x6] : List (Option V)) = _
        rw [List.length_map, hml1, show (((i + 1 : Nat) : Int) - 1) = (i : Int) by omega]
      rintro σ' H' ⟨rfl, rfl⟩
      refine ⟨20, rfl, by decide, by decide, for_range (n := 20) (fun k σ H' => ∃ (ms : List Int) (p : Nat) (way : List Nat) (lk : Nat) (x3 x5 x6 : Option V), σ = [some (.ref a), some (.int w), some (.ref D), x3, some (.int p), x5, x6] ∧ Acc H D (ms.map V.int) H' ∧ ms.length = i + 1 ∧ p < i + 1 ∧ k ≤ 20 ∧ goUp w 20 m1 i [i] 0 = (goUp w (20 - k) ms p way lk))
        ⟨m1, i, [i], 0, _, _, _, rfl, ac1, hml1, by omega, by omega, rfl⟩ ?_ ?_⟩
      · rintro k σ H2 hk ⟨m2, p, way, lk, y3, y5, y6, rfl, ac2, hml2, hp, hk2, eg⟩
        have ef : 20 - k = (20 - (k + 1)) + 1 := by omega
        rw [ef] at eg
        refine ⟨_, rfl, rfl, _, rfl, ?_⟩
        by_cases h0 : p = 0
        · rw [decide_eq_true (show V.int (p : Nat) = V.int 0 by rw [h0]; rfl)]
          rw [h0, goUp_root] at eg
          rw [eg]
          exact iteT (iteT ⟨_, _, _, _, rfl, ac2⟩)
        · rw [decide_eq_false (show ¬ V.int (p : Nat) = V.int 0 by intro z; injection z with z; omega)]
          have hlt : (p - 1) / w < p := Nat.lt_of_le_of_lt (Nat.div_le_self _ _) (by omega)
          have hq2 : (p - 1) / w < m2.length := by omega
          have hp2 : p < m2.length := by omega
          refine iteF ⟨_, rfl, _, rfl, _, rfl, w, p, rfl, hw, by omega, D, _, _, _, rfl, rfl, SqL.of ac2.a, key_at hq2, _, rfl, _, rfl, D, _, _, _, rfl, rfl, SqL.of ac2.a, key_at hp2, _, _, rfl, rfl, _, rfl, ?_⟩
          by_cases hle : keyAt m2 ((p - 1) / w) ≤ keyAt m2 p
          · rw [decide_eq_true hle]
            rw [goUp_stay h0 (by omega)] at eg
            rw [eg]
            exact iteT ⟨_, _, _, _, rfl, ac2⟩
          rw [decide_eq_false hle]
          refine iteF ?_
          rw [goUp_go h0 (by omega)] at eg
          refine ⟨_, rfl, _, rfl, w, p, rfl, hw, by omega, ?_⟩
          refine ⟨_, rfl, _, rfl, D, _, _, _, rfl, rfl, SqL.of ac2.a, key_at hq2, _, rfl, _, rfl, D, _, _, _, rfl, rfl, SqL.of ac2.a, key_at hp2, by show 2 ≤ sizeLine; decide, fun t ht => ?_⟩
          have ac3 := ac2.same (Same.up (o := .tup [V.int (keyAt m2 ((p - 1) / w)), V.int (keyAt m2 p)]) ht)
          have et : upd H2 t (.tup [V.int (keyAt m2 ((p - 1) / w)), V.int (keyAt m2 p)]) t = some (.tup [V.int (keyAt m2 ((p - 1) / w)), V.int (keyAt m2 p)]) := upd_same
          generalize upd H2 t (.tup [V.int (keyAt m2 ((p - 1) / w)), V.int (keyAt m2 p)]) = G3 at ac3 et
          refine ⟨t, _, rfl, SqT.of et, rfl, _, _, rfl, _, rfl, _, rfl, D, _, _, p, rfl, rfl, ac3.a, ixN_nat (by rw [List.length_map]; exact hp2), ?_⟩
          rw [set_int]
          have ac4 : Acc H D ((m2.set p (keyAt m2 ((p - 1) / w))).map V.int) (upd G3 D (.lst ((m2.set p (keyAt m2 ((p - 1) / w))).map V.int))) := ac3.push
          generalize upd G3 D (.lst ((m2.set p (keyAt m2 ((p - 1) / w))).map V.int)) = G4 at ac4
          refine ⟨_, _, rfl, _, rfl, _, rfl, D, _, _, (p - 1) / w, rfl, rfl, ac4.a, ixN_nat (by rw [List.length_map, List.length_set]; omega), ?_⟩
          rw [set_int, show (m2.set p (keyAt m2 ((p - 1) / w))).set ((p - 1) / w) (keyAt m2 p) = swp m2 p ((p - 1) / w) from rfl]
          exact ⟨rfl, _, rfl, swp m2 p ((p - 1) / w), (p - 1) / w, _, _, _, _, _, rfl, ac4.push, by rw [swp_len]; exact hml2, by omega, by omega, eg⟩
      · rintro σ H2 ⟨m2, p, way, lk, y3, y5, y6, rfl, ac2, hml2, hp, hk2, eg⟩
        rw [show goUp w (20 - 20) m2 p way lk = (m2, way, lk) from rfl] at eg
        rw [eg]
        exact ⟨_, _, _, _, rfl, ac2⟩
    · rintro σ H1 ⟨x3, x4, x5, x6, rfl, ac⟩
      rw [List.length_map] at ac
      obtain ⟨h1, h2, h3⟩ := pushAll_ok (w := w) hl ks.length (Nat.le_refl _)
      rw [List.take_length] at h3
      exact ⟨_, rfl, q _ D _ ac.s (by rw [h1]; exact h2) h3 hD ac.a⟩
theorem b_lh (T : Tx K mg A) : L2.Binds K A.d__law_heap ["keys", "wide"] [] := T.F__law_heap.binds fun _ _ _ _ _ _ us hl => match us, hl with | [_, _], _ => rfl
/-- one list of one's own -/
structure One1 (H : Hp) (D : Addr) (xs : List V) (H' : Hp) : Prop where
  s : Same H H'
  d : H' D = some (.lst xs)
  n : H D = Option.none
section
variable {H H' H2 : Hp} {D : Addr} {xs zs : List V}
theorem One1.setD (h : One1 H D xs H') : One1 H D zs (upd H' D (.lst zs)) := ⟨fun b o e => by rw [upd_ne (ne_of_none e h.n)]; exact h.s b o e, upd_same, h.n⟩
theorem One1.same (h : One1 H D xs H') (s : Same H' H2) : One1 H D xs H2 := ⟨h.s.trans s, s _ _ h.d, h.n⟩
end
/-- ((), (), 0) -/
theorem due_none {H' : Hp} {u1 u2 t : Addr} (n1 : H' u1 = none) (n2 : upd H' u1 (.tup []) u2 = none) (nt : upd (upd H' u1 (.tup [])) u2 (.tup []) t = none) :
    Same H' (upd (upd (upd H' u1 (.tup [])) u2 (.tup [])) t (.tup [.ref u1, .ref u2, .int 0])) ∧ DueAt (upd (upd (upd H' u1 (.tup [])) u2 (.tup [])) t (.tup [.ref u1, .ref u2, .int 0])) t ([], [], 0) :=
  ⟨(Same.up n1).trans ((Same.up n2).trans (Same.up nt)), u1, u2, upd_same, (Same.up nt) _ _ ((Same.up n2) _ _ upd_same), (Same.up nt) _ _ upd_same⟩
theorem sq_cut {H : Hp} {r : Addr} {ks : List Int} {lo hi : Option Int} {zs : List Int} {Q : VK} (K : PySem.W.Frag) (h : Sq H r (ks.map V.int)) (c : cutV (ks.map V.int) lo hi = zs.map V.int ∧ ¬ (HT.sIx (ks.map V.int).length 0 lo = 0 ∧ HT.sIx (ks.map V.int).length (ks.map V.int).length hi = (ks.map V.int).length))
    (q : ∀ p G, Same H G → Sq G p (zs.map V.int) → Q (.ref p) G) : rSlL K (.ref r) lo hi H Q ∨ rSlT K (.ref r) lo hi H Q := by
  rcases h with h | h
  · exact .inl ⟨r, _, rfl, SqL.of h, fun p np => by rw [c.1]; exact q p _ (Same.up np) (.inl upd_same)⟩
  · exact .inr ⟨r, _, rfl, SqT.of h, c.2, fun p np => by rw [c.1]; exact q p _ (Same.up np) (.inr upd_same)⟩
theorem sq_ix {K : PySem.W.Frag} {H : Hp} {r : Addr} {ks : List Int} {i v : Int} {Q : VK} (h : Sq H r (ks.map V.int)) (e : atI (ks.map V.int) i = some (V.int v)) (q : Q (.int v) H) : rIx K (.ref r) (.int i) H Q := by
  rcases h with h | h
  · exact .inl ⟨r, _, _, _, rfl, rfl, SqL.of h, e, q⟩
  · exact .inr (.inl ⟨r, _, _, _, rfl, rfl, SqT.of h, e, q⟩)
theorem cut_most (ks : List Int) (h : 1 ≤ ks.length) : cutV (ks.map V.int) none (some (-1)) = (ks.take (ks.length - 1)).map V.int ∧ ¬ (HT.sIx (ks.map V.int).length 0 none = 0 ∧ HT.sIx (ks.map V.int).length (ks.map V.int).length (some (-1)) = (ks.map V.int).length) := by
  obtain ⟨a, b⟩ := cut_last (ks.map V.int) (fun z => by rw [List.map_eq_nil_iff.mp z] at h; exact absurd h (by decide))
  refine ⟨?_, b⟩
  rw [a, List.length_map, ← List.map_take]

end
end Tw

set_option Elab.async false
set_option linter.all false
set_option maxRecDepth 100000
set_option maxHeartbeats 2000000
namespace Tw
open PySem PySem.Spec PyProof.Rows L2
section
variable {P : Program} {w : World} {K : PySem.W.Frag} {mg : Str → Option Value} {base : Heap} {A : Ad}
open LamX (ExtN Tabs TabS)
def spLHole : Sp := fun vs H Q _ => ∃ (r w : Nat) (ks : List Int), vs = [.ref r, .int w] ∧ (1 ≤ w ∧ w ≤ 4) ∧ Sq H r (ks.map V.int) ∧ 1 ≤ ks.length ∧ ks.length ≤ 12 ∧
  ∀ (H' : Hp) (d : Addr), Same H H' → DueAt H' d (holeR ks w) → Q (.ref d) H'
theorem ok_lhole (T : Tx K mg A) : FnOk P w K mg base CX0 5 A.f__law_hole A.d__law_hole ["row", "wide"] spLHole := by
  refine T.F__law_hole.ok sc__law_hole (fun vs H Q E h => ?_) (fun cdv B outer s H vs Q E hr h => ?_)
  · obtain ⟨r, w, ks, rfl, _⟩ := h
    rfl
  · obtain ⟨r, w, ks, rfl, hw, hrow, hpos, hk12, q⟩ := h
    have nd := sc__law_hole.nd
    have hu := hr.units
    have hcm := cut_most ks hpos
    have hla := last_ints hpos
    have hl0 : (ks.take (ks.length - 1)).length = ks.length - 1 := by rw [List.length_take]; omega
    have eH : ¬ ks.length = 1 → holeR ks w = ((goUp w 20 ((goHole (ks.length - 1) w 20 (ks.take (ks.length - 1)) 0 0).1.set (goHole (ks.length - 1) w 20 (ks.take (ks.length - 1)) 0 0).2.1 (ks.getD (ks.length - 1) 0)) (goHole (ks.length - 1) w 20 (ks.take (ks.length - 1)) 0 0).2.1 [(goHole (ks.length - 1) w 20 (ks.take (ks.length - 1)) 0 0).2.1] 0).1, (goUp w 20 ((goHole (ks.length - 1) w 20 (ks.take (ks.length - 1)) 0 0).1.set (goHole (ks.length - 1) w 20 (ks.take (ks.length - 1)) 0 0).2.1 (ks.getD (ks.length - 1) 0)) (goHole (ks.length - 1) w 20 (ks.take (ks.length - 1)) 0 0).2.1 [(goHole (ks.length - 1) w 20 (ks.take (ks.length - 1)) 0 0).2.1] 0).2.1, (goHole (ks.length - 1) w 20 (ks.take (ks.length - 1)) 0 0).2.2 + (goUp w 20 ((goHole (ks.length - 1) w 20 (ks.take (ks.length - 1)) 0 0).1.set (goHole (ks.length - 1) w 20 (ks.take (ks.length - 1)) 0 0).2.1 (ks.getD (ks.length - 1) 0)) (goHole (ks.length - 1) w 20 (ks.take (ks.length - 1)) 0 0).2.1 [(goHole (ks.length - 1) w 20 (ks.take (ks.length - 1)) 0 0).2.1] 0).2.2) := fun h1 => by
      unfold holeR
      rw [if_neg h1]
    have e1 : ks.length = 1 → holeR ks w = ([], [], 0) := fun h1 => by
      unfold holeR
      rw [if_pos h1]
    generalize ks.getD (ks.length - 1) 0 = x at *
    obtain ⟨k0, ek0⟩ : ∃ k0, k0 = ks.take (ks.length - 1) := ⟨_, rfl⟩
    obtain ⟨n, en⟩ : ∃ n, n = ks.length - 1 := ⟨_, rfl⟩
    rw [← ek0, ← en] at eH hl0
    rw [← ek0] at hcm
    refine ⟨_, (C8.pss_cut (ps_asg (pe_tup (pa_cons (pe_callTy call_list_of (by rfl) T.g_list (by decide +kernel) (pa_cons (pe_slice (sl_list.or sl_tup) (pv 0) po_none (po_some (pe_un un_neg pe_int))) pa_nil)) (pa_cons (pe_ix (r := rIx K) ix_seq (pv 0) (pe_un un_neg pe_int) (fun _ _ => rfl)) (pa_cons pe_int (pa_cons pe_int pa_nil))))) (pg_tup rfl (pgs_cons (pg_name (i := 2) nd rfl (Or.inl rfl)) (pgs_cons (pg_name (i := 3) nd rfl (Or.inl rfl)) (pgs_cons (pg_name (i := 4) nd rfl (Or.inl rfl)) (pgs_cons (pg_name (i := 5) nd rfl (Or.inl rfl)) pgs_nil))))))
      (C8.pss_cut (ps_if (pt_cmpR (op_eqD hu) (pv 2) (pe_lst pa_nil) (nomark _)) (pss_one (ps_ret (pe_tup (pa_cons (pe_tup pa_nil) (pa_cons (pe_tup pa_nil) (pa_cons pe_int pa_nil)))))) pss_nil)
      (C8.pss_cut (ps_for PassesOwn.never rfl (pi_range1 rfl T.g_range (pa_cons pe_int pa_nil)) (pg_name (i := 6) nd rfl (Or.inl rfl)) (pss_cons (ps_set (i := 7) nd rfl (Or.inl rfl) (pe_call (ok_lkid T) (hr.mono (by decide)) (by rfl) T.m__law_children T.F__law_children.kp (b_lkid T) .nil pass0 (pa_cons (pv 1) (pa_cons (pe_callB call_len_seq (by rfl) T.g_len PySem.boot_len (pa_cons (pv 2) pa_nil)) (pa_cons (pv 4) pa_nil)))))
      (pss_cons (ps_if (pt_cmpR (op_eqD hu) (pv 7) (pe_lst pa_nil) (nomark _)) (pss_one ps_break) pss_nil)
      (pss_cons (ps_par (i := 5) (j := 8) rfl nd rfl rfl (by decide) rfl rfl (pa_cons (pe_op op_sub (pe_op op_add (pv 5) (pe_callB call_len_seq (by rfl) T.g_len PySem.boot_len (pa_cons (pv 7) pa_nil))) pe_int) (pa_cons (pe_ix ix_list (pv 7) pe_int (fun _ _ => rfl)) pa_nil)) rfl)
      (C8.pss_cut (ps_for PassesOwn.never rfl (pi_list (pv 7)) (pg_name (i := 9) nd rfl (Or.inl rfl)) (pss_one (ps_if (pt_cmpR op_lt (pe_ix ix_list (pv 2) (pv 9) (fun _ _ => rfl)) (pe_ix ix_list (pv 2) (pv 8) (fun _ _ => rfl)) (nomark _)) (pss_one (ps_set (i := 8) nd rfl (Or.inl rfl) (pv 9))) pss_nil)))
      (pss_one (ps_asg (pe_tup (pa_cons (pe_ix ix_list (pv 2) (pv 8) (fun _ _ => rfl)) (pa_cons (pv 8) pa_nil))) (pg_tup rfl (pgs_cons (pg_sub (pv 2) (pv 4) set_list) (pgs_cons (pg_name (i := 4) nd rfl (Or.inl rfl)) pgs_nil))))))))))
      (pss_cons (ps_asg (pv 3) (pg_sub (pv 2) (pv 4) set_list))
      (C8.pss_cut (ps_set (i := 10) nd rfl (Or.inl rfl) (pe_call (ok_lup T) (hr.mono (by decide)) (by rfl) T.m__law_up T.F__law_up.kp (b_lup T) .nil pass0 (pa_cons (pv 2) (pa_cons (pv 1) (pa_cons (pv 4) pa_nil)))))
      (pss_one (ps_ret (pe_tup (pa_cons (pe_ix (r := rIx K) ix_seq (pv 10) pe_int (fun _ _ => rfl)) (pa_cons (pe_ix (r := rIx K) ix_seq (pv 10) pe_int (fun _ _ => rfl)) (pa_cons (pe_op op_add (pv 5) (pe_ix (r := rIx K) ix_seq (pv 10) pe_int (fun _ _ => rfl))) pa_nil))))))))))), ?_⟩
    refine ⟨fun σ' H' => ∃ D : Addr, σ' = [some (.ref r), some (.int w), some (.ref D), some (.int x), some (.int (0 : Nat)), some (.int (0 : Nat)), none, none, none, none, none] ∧ One1 H D (k0.map V.int) H', ?_, ?_⟩
    · refine ⟨_, rfl, _, rfl, _, rfl, sq_cut K hrow hcm fun p G sG hG => ?_⟩
      refine ⟨p, _, rfl, hG.len, fun D nD => ?_⟩
      have s1 := sG.trans (Same.up (o := .lst (k0.map V.int)) nD)
      refine ⟨_, rfl, _, rfl, sq_ix (hrow.same s1) hla ⟨by show 4 ≤ sizeLine; decide, fun t nt => ?_⟩⟩
      refine ⟨t, _, rfl, SqT.of upd_same, rfl, _, _, rfl, _, _, rfl, _, _, rfl, _, _, rfl, rfl, D, rfl, s1.trans (Same.up nt), ?_, sG.free nD⟩
      exact (Same.up nt) _ _ upd_same
    rintro σ' H1 ⟨D, rfl, one1⟩
    refine ⟨fun σ' H' => σ' = [some (.ref r), some (.int w), some (.ref D), some (.int x), some (.int (0 : Nat)), some (.int (0 : Nat)), none, none, none, none, none] ∧ One1 H D (k0.map V.int) H' ∧ ¬ ks.length = 1, ?_, ?_⟩
    · refine ⟨_, rfl, Nat.zero_le _, fun e0 ne0 => ?_⟩
      have s3 := Same.up (o := .lst []) ne0
      refine ⟨.list (k0.map PyData.int), .list [], .lst (SqL.of (s3 _ _ one1.d)) (ints_dp _ _ _), .lst (SqL.of upd_same) .nil, shaped_ints _, rfl, _, rfl, ?_⟩
      rw [emp_eqv]
      by_cases h1 : ks.length = 1
      · rw [decide_eq_true (List.length_eq_zero_iff.mp (by omega))]
        refine iteT ⟨Nat.zero_le _, fun u1 n1 => ⟨Nat.zero_le _, fun u2 n2 => ⟨by show 3 ≤ sizeLine; decide, fun t nt => ?_⟩⟩⟩
        obtain ⟨o1, o2⟩ := due_none n1 n2 nt
        exact q _ t (one1.s.trans (s3.trans o1)) (by rw [e1 h1]; exact o2)
      · rw [decide_eq_false (fun z => h1 (by rw [z] at hl0; simp at hl0; omega))]
        exact iteF ⟨rfl, one1.same s3, h1⟩
    rintro σ' H2 ⟨rfl, one2, h1⟩
    have eq0 := eH h1
    clear eH e1
    obtain ⟨res, eres⟩ : ∃ res, res = goHole n w 20 k0 0 0 := ⟨_, rfl⟩
    rw [← eres] at eq0
    have hn1 : 1 ≤ n := by omega
    have hlt : res.2.1 < n := eres ▸ hole_lt hw.1 20 k0 0 0 (by omega)
    have hrl : res.1.length = n := eres ▸ (hole_len n w 20 k0 0 0).trans hl0
    refine ⟨fun σ' H' => ∃ (x6 x7 x8 x9 : Option V), σ' = [some (.ref r), some (.int w), some (.ref D), some (.int x), some (.int (res.2.1 : Nat)), some (.int (res.2.2 : Nat)), x6, x7, x8, x9, none] ∧ One1 H D (res.1.map V.int) H', ?_, ?_⟩
    · refine ⟨20, rfl, by decide, by decide, for_range (n := 20) (fun i σ' H' => ∃ (ks' : List Int) (cur lk : Nat) (x6 x7 x8 x9 : Option V), σ' = [some (.ref r), some (.int w), some (.ref D), some (.int x), some (.int cur), some (.int lk), x6, x7, x8, x9, none] ∧ One1 H D (ks'.map V.int) H' ∧
        cur < n ∧ ks'.length = n ∧ i ≤ 20 ∧ goHole n w 20 k0 0 0 = goHole n w (20 - i) ks' cur lk) ⟨k0, 0, 0, none, none, none, none, rfl, one2, by omega, hl0, by omega, rfl⟩ ?_ ?_⟩
      · rintro i σ' H' hi ⟨ks', cur, lk, x6, x7, x8, x9, rfl, one, hcur, hkl, hi2, eg⟩
        have ef : 20 - i = (20 - (i + 1)) + 1 := by omega
        rw [ef] at eg
        refine ⟨_, rfl, _, rfl, D, _, rfl, .inl (SqL.of one.d), _, rfl, w, n, cur, by rw [List.length_map, hkl]; rfl, hw, by omega, hcur, fun H5 b s5 b0 hb => ?_⟩
        have one5 := one.same s5
        refine ⟨_, rfl, Nat.zero_le _, fun e0 ne0 => ?_⟩
        have s6 : Same H5 (upd H5 e0 (.lst [])) := Same.up ne0
        have he0 : upd H5 e0 (.lst []) e0 = some (.lst (vi [])) := upd_same
        have one6 := one5.same s6
        have hb6 := s6 _ _ hb
        generalize upd H5 e0 (.lst []) = H6 at one6 hb6 he0
        refine ⟨_, _, dp_lst _ hb6, dp_lst _ he0, dl_shapedL _, dl_shapedL _, _, rfl, ?_⟩
        rw [dl_emp]
        by_cases hk0 : kidL n w cur = []
        · rw [decide_eq_true hk0]
          refine iteT ?_
          rw [hole_leaf hk0] at eg
          rw [eres, eg]
          exact ⟨_, _, _, _, rfl, one6⟩
        · rw [decide_eq_false hk0]
          refine iteF ?_
          have hps := List.length_pos_iff.mpr hk0
          have hmem := least_mem (ks := ks') hk0
          obtain ⟨hb1, hb2⟩ := kid_in hw.1 hmem
          have at0 : atI (vi (kidL n w cur)) 0 = some (V.int (((kidL n w cur).getD 0 0 : Nat) : Int)) := by
            show atI (vi (kidL n w cur)) ((0 : Nat) : Int) = _
            refine atI_nat ?_
            unfold vi
            rw [List.getElem?_map, List.getD_eq_getElem?_getD, List.getElem?_eq_getElem hps]
            rfl
          refine ⟨_, rfl, _, rfl, b, _, rfl, .inl (SqL.of hb6), _, _, rfl, rfl, _, _, rfl, rfl, _, rfl, b, _, _, _, rfl, rfl, SqL.of hb6, at0, _, _, rfl, ?_⟩
          rw [vi_len]
          refine ⟨fun σ' G => ∃ (x9 : Option V), σ' = [some (.ref r), some (.int w), some (.ref D), some (.int x), some (.int cur), some (.int ((lk + ((kidL n w cur).length - 1) : Nat) : Int)), some (.int ((0 : Int) + (i : Nat))), some (.ref b), some (.int ((leastC ks' (kidL n w cur) : Nat) : Int)), x9, none] ∧ G = H6, ?_, ?_⟩
          · refine ⟨_, rfl, b, rfl, ⟨_, SqL.of hb6⟩, for_list (K := K) (a := b) (xs := vi (kidL n w cur)) (fun i2 σ' G => ∃ (j : Nat) (x9 : Option V), σ' = [some (.ref r), some (.int w), some (.ref D), some (.int x), some (.int cur), some (.int ((lk + ((kidL n w cur).length - 1) : Nat) : Int)), some (.int ((0 : Int) + (i : Nat))), some (.ref b), some (.int (((kidL n w cur).getD j 0 : Nat) : Int)), x9, none] ∧ G = H6 ∧
              Cl.FirstLeast (fun m => keyAt ks' ((kidL n w cur).getD m 0)) (max i2 1) j) ⟨0, x9, ?_, rfl, ⟨by omega, fun k hk => by rw [show k = 0 by omega]; omega, fun k hk => absurd hk (by omega)⟩⟩ (fun i2 σ' G _ ⟨_, _, _, e, _⟩ => by rw [e]; exact SqL.of hb6) ?_ ?_⟩
            · show ([some (.ref r), some (.int w), some (.ref D), some (.int x), some (.int cur), some (V.int ((lk : Int) + ((kidL n w cur).length : Int) - 1)), some (.int ((0 : Int) + (i : Nat))), some (.ref b), some (.int (((kidL n w cur).getD 0 0 : Nat) : Int)), x9, none] : List (Option V)) = _
              rw [show (lk : Int) + ((kidL n w cur).length : Int) - 1 = ((lk + ((kidL n w cur).length - 1) : Nat) : Int) by omega]
            · rintro i2 y σ' G hx ⟨j, y9, rfl, rfl, fl⟩
              obtain ⟨hi2', rfl⟩ := vi_at hx
              have hmi : (kidL n w cur).getD i2 0 ∈ kidL n w cur := by rw [List.getD_eq_getElem?_getD, List.getElem?_eq_getElem hi2']; exact List.getElem_mem hi2'
              have hj : j < (kidL n w cur).length := by have := fl.1; omega
              have hmj : (kidL n w cur).getD j 0 ∈ kidL n w cur := by rw [List.getD_eq_getElem?_getD, List.getElem?_eq_getElem hj]; exact List.getElem_mem hj
              have q1 := (kid_in hw.1 hmi).2
              have q2 := (kid_in hw.1 hmj).2
              have st := first_step fl
              refine ⟨_, rfl, _, rfl, D, _, _, _, rfl, rfl, SqL.of one6.d, key_at (by omega), _, rfl, _, rfl, D, _, _, _, rfl, rfl, SqL.of one6.d, key_at (by omega), _, _, rfl, rfl, _, rfl, ?_⟩
              by_cases hl : keyAt ks' ((kidL n w cur).getD i2 0) < keyAt ks' ((kidL n w cur).getD j 0)
              · rw [decide_eq_true hl]
                refine iteT ⟨_, rfl, i2, _, rfl, rfl, ?_⟩
                rw [if_pos hl] at st
                rw [show max (i2 + 1) 1 = i2 + 1 by omega]
                exact st
              · rw [decide_eq_false hl]
                refine iteF ⟨j, _, rfl, rfl, ?_⟩
                rw [if_neg hl] at st
                rw [show max (i2 + 1) 1 = i2 + 1 by omega]
                exact st
            · rintro σ' G ⟨j, y9, rfl, rfl, fl⟩
              rw [vi_len, show max (kidL n w cur).length 1 = (kidL n w cur).length by omega] at fl
              rw [least_of fl]
              exact ⟨_, rfl, rfl⟩
          rintro σ' G ⟨y9, rfl, rfl⟩
          generalize ebb : leastC ks' (kidL n w cur) = c at *
          have hc1 : cur < ks'.length := by omega
          have hc2 : c < ks'.length := by omega
          rw [hole_go hk0 ebb] at eg
          refine ⟨_, rfl, _, rfl, D, _, _, _, rfl, rfl, SqL.of one6.d, key_at hc2, _, rfl, by show 2 ≤ sizeLine; decide, fun t ht => ?_⟩
          have one7 := one6.same (Same.up (o := .tup [V.int (keyAt ks' c), V.int (c : Nat)]) ht)
          have et : upd G t (.tup [V.int (keyAt ks' c), V.int (c : Nat)]) t = some (.tup [V.int (keyAt ks' c), V.int (c : Nat)]) := upd_same
          generalize upd G t (.tup [V.int (keyAt ks' c), V.int (c : Nat)]) = G1 at one7 et
          refine ⟨t, _, rfl, SqT.of et, rfl, _, _, rfl, _, rfl, _, rfl, D, _, _, cur, rfl, rfl, one7.d, ixN_nat (by rw [List.length_map]; exact hc1), ?_⟩
          rw [set_int]
          refine ⟨_, _, rfl, rfl, ks'.set cur (keyAt ks' c), c, lk + ((kidL n w cur).length - 1), _, _, _, _, rfl, one7.setD, hb2, by rw [List.length_set]; exact hkl, by omega, eg⟩
      · rintro σ' H' ⟨ks', cur, lk, x6, x7, x8, x9, rfl, one, hcur, hkl, hi2, eg⟩
        rw [show goHole n w (20 - 20) ks' cur lk = (ks', cur, lk) from rfl] at eg
        rw [eres, eg]
        exact ⟨_, _, _, _, rfl, one⟩
    rintro σ' H3 ⟨x6, x7, x8, x9, rfl, one3⟩
    refine ⟨_, rfl, _, rfl, _, rfl, D, _, _, res.2.1, rfl, rfl, one3.d, ixN_nat (by rw [List.length_map]; omega), ?_⟩
    rw [set_int]
    have one4 : One1 H D ((res.1.set res.2.1 x).map V.int) (upd H3 D (.lst ((res.1.set res.2.1 x).map V.int))) := one3.setD
    generalize upd H3 D (.lst ((res.1.set res.2.1 x).map V.int)) = H4 at one4
    obtain ⟨u, eu⟩ : ∃ u, u = goUp w 20 (res.1.set res.2.1 x) res.2.1 [res.2.1] 0 := ⟨_, rfl⟩
    rw [← eu] at eq0
    refine ⟨fun σ' H' => ∃ f : Addr, σ' = [some (.ref r), some (.int w), some (.ref D), some (.int x), some (.int (res.2.1 : Nat)), some (.int (res.2.2 : Nat)), x6, x7, x8, x9, some (.ref f)] ∧ Same H H' ∧ DueAt H' f u, ?_, ?_⟩
    · refine ⟨_, rfl, _, rfl, _, rfl, D, w, res.2.1, res.1.set res.2.1 x, rfl, hw, .inl one4.d, by rw [List.length_set]; omega, by rw [List.length_set]; omega, fun H5 f s5 d5 => ?_⟩
      rw [← eu] at d5
      exact ⟨f, rfl, one4.s.trans s5, d5⟩
    rintro σ' H5 ⟨f, rfl, s5, t1, t2, g1, g2, g3⟩
    refine ⟨_, rfl, .inr (.inl ⟨f, _, _, _, rfl, rfl, SqT.of g1, rfl, ?_⟩)⟩
    refine ⟨_, rfl, .inr (.inl ⟨f, _, _, _, rfl, rfl, SqT.of g1, rfl, ?_⟩)⟩
    refine ⟨_, rfl, _, rfl, .inr (.inl ⟨f, _, _, _, rfl, rfl, SqT.of g1, rfl, ?_⟩)⟩
    refine ⟨_, _, rfl, rfl, by show 3 ≤ sizeLine; decide, fun t nt => ?_⟩
    have s6 := Same.up (o := .tup [V.ref t1, V.ref t2, V.int ((res.2.2 : Int) + (u.2.2 : Int))]) nt
    refine q _ t (s5.trans s6) ?_
    rw [eq0]
    exact ⟨t1, t2, upd_same, s6 _ _ g2, s6 _ _ g3⟩
theorem b_lhole (T : Tx K mg A) : L2.Binds K A.d__law_hole ["row", "wide"] [] := T.F__law_hole.binds fun _ _ _ _ _ _ us hl => match us, hl with | [_, _], _ => rfl
def spLOut : Sp := fun vs H Q _ => ∃ (r w : Nat) (ks : List Int), vs = [.ref r, .int w] ∧ (1 ≤ w ∧ w ≤ 4) ∧ Sq H r (ks.map V.int) ∧ 1 ≤ ks.length ∧ ks.length ≤ 12 ∧
  ∀ (H' : Hp) (d : Addr), Same H H' → DueAt H' d (takeR ks w) → Q (.ref d) H'
theorem ok_lout (T : Tx K mg A) : FnOk P w K mg base CX0 5 A.f__law_out A.d__law_out ["row", "wide"] spLOut := by
  refine T.F__law_out.ok sc__law_out (fun vs H Q E h => ?_) (fun cdv B outer s H vs Q E hr h => ?_)
  · obtain ⟨r, w, ks, rfl, _⟩ := h
    rfl
  · obtain ⟨r, w, ks, rfl, hw, hrow, hpos, hk12, q⟩ := h
    have nd := sc__law_out.nd
    refine ⟨_, (C8.pss_cut (ps_if (pt_cmpR op_eq (pe_callB call_len_seq (by rfl) T.g_len PySem.boot_len (pa_cons (pv 0) pa_nil)) pe_int (nomark _)) (pss_one (ps_ret (pe_tup (pa_cons (pe_tup pa_nil) (pa_cons (pe_tup pa_nil) (pa_cons pe_int pa_nil)))))) pss_nil)
      (pss_one (ps_ret (pe_call (ok_ldown T) (hr.mono (by decide)) (by rfl) T.m__law_down T.F__law_down.kp (b_ldown T) .nil pass0 (pa_cons (pe_op op_cat (pe_lst (pa_cons (pe_ix (r := rIx K) ix_seq (pv 0) (pe_un un_neg pe_int) (fun _ _ => rfl)) pa_nil)) (pe_callTy call_list_of (by rfl) T.g_list (by decide +kernel) (pa_cons (pe_slice (sl_list.or sl_tup) (pv 0) (po_some pe_int) (po_some (pe_un un_neg pe_int))) pa_nil))) (pa_cons (pv 1) (pa_cons pe_int pa_nil))))))), ?_⟩
    refine ⟨fun σ' H' => σ' = [some (.ref r), some (.int w)] ∧ H' = H ∧ ¬ ks.length = 1, ?_, ?_⟩
    · refine ⟨_, rfl, r, _, rfl, hrow.len, rfl, _, rfl, ?_⟩
      by_cases h1 : ks.length = 1
      · rw [decide_eq_true (show V.int ((ks.map V.int).length : Nat) = V.int 1 by rw [List.length_map, h1]; rfl)]
        refine iteT ⟨Nat.zero_le _, fun u1 n1 => ⟨Nat.zero_le _, fun u2 n2 => ⟨by show 3 ≤ sizeLine; decide, fun t nt => ?_⟩⟩⟩
        obtain ⟨o1, o2⟩ := due_none n1 n2 nt
        refine q _ t o1 ?_
        unfold takeR
        rw [if_pos h1]
        exact o2
      · rw [decide_eq_false (show ¬ V.int ((ks.map V.int).length : Nat) = V.int 1 by rw [List.length_map]; intro z; injection z with z; omega)]
        exact iteF ⟨rfl, rfl, h1⟩
    rintro σ' H' ⟨rfl, rfl, h1⟩
    have h2 : 2 ≤ ks.length := by omega
    refine ⟨_, rfl, _, rfl, sq_ix hrow (last_ints hpos) ⟨by show 1 ≤ sizeLine; decide, fun l1 n1 => ?_⟩⟩
    have s1 := Same.up (o := .lst [V.int (ks.getD (ks.length - 1) 0)]) n1
    have e1 := upd_same (H := H') (a := l1) (o := .lst [V.int (ks.getD (ks.length - 1) 0)])
    generalize upd H' l1 (.lst [V.int (ks.getD (ks.length - 1) 0)]) = H1 at s1 e1
    refine ⟨_, rfl, _, rfl, _, rfl, _, rfl, sq_cut K (hrow.same s1) (cut_mid ks h2) fun p G sG hG => ?_⟩
    refine ⟨p, _, rfl, hG.len, fun l2 n2 => ?_⟩
    have s2 := Same.up (o := .lst (((ks.drop 1).take (ks.length - 2)).map V.int)) n2
    refine ⟨l1, l2, _, _, rfl, rfl, s2 _ _ (sG _ _ e1), upd_same, Nat.le_of_lt (small1000 (by rw [List.length_singleton, List.length_map, List.length_take, List.length_drop]; omega)), fun p3 n3 => ?_⟩
    rw [show [V.int (ks.getD (ks.length - 1) 0)] ++ ((ks.drop 1).take (ks.length - 2)).map V.int = (outRow ks).map V.int from rfl]
    have s3 := s1.trans (sG.trans (s2.trans (Same.up (o := .lst ((outRow ks).map V.int)) n3)))
    refine ⟨_, rfl, p3, w, 0, outRow ks, rfl, hw, .inl upd_same, by rw [outRow_len h2]; omega, by rw [outRow_len h2]; omega, fun H5 f s5 d5 => ?_⟩
    refine q _ f (s3.trans s5) ?_
    unfold takeR
    rw [if_neg h1, ← outRow_len h2]
    exact d5
theorem b_lout (T : Tx K mg A) : L2.Binds K A.d__law_out ["row", "wide"] [] := T.F__law_out.binds fun _ _ _ _ _ _ us hl => match us, hl with | [_, _], _ => rfl

end
end Tw

set_option Elab.async false
set_option linter.all false
set_option maxRecDepth 100000
set_option maxHeartbeats 2000000
namespace Tw
open PySem PySem.Spec PyProof.Rows L2
section
variable {P : Program} {w : World} {K : PySem.W.Frag} {mg : Str → Option Value} {base : Heap} {A : Ad}
/-- a walk, whatever its turns do -/
theorem walk_gen {J : It} {n : Nat} {G : Hp → Prop} {Y : Nat → Hp → V → Hp → Prop} (w : Walk J n G Y) {Bd : (Hp → Prop) → V → Hp → Prop} {Qd : Hp → Prop} {H0 : Hp} (Pv : Nat → Hp → Prop) (h0 : Pv 0 H0) (hG : ∀ i H, i ≤ n → Pv i H → G H)
    (hs : ∀ i x H H', i < n → Pv i H → Y i H x H' → Bd (Pv (i + 1)) x H') (hd : ∀ H, Pv n H → Qd H) :
    ∃ W : Nat → Nat → Hp → Prop, (∃ m, W 0 m H0) ∧ ∀ i m H, W i m H →
      (J.stop i H ∧ Qd H) ∨ (J.go i H ∧ ∃ Nx : Hp → Prop, (∀ H', Nx H' → ∃ m', m' < m ∧ W (i + 1) m' H') ∧ ∀ x H', J.yld i H x H' → Bd Nx x H') := by
  refine ⟨fun i m H => m = n - i ∧ i ≤ n ∧ Pv i H, ⟨n, (Nat.sub_zero n).symm, Nat.zero_le _, h0⟩, ?_⟩
  rintro i m H ⟨rfl, hi, p⟩
  have q := hG i H hi p
  by_cases hlt : i < n
  · exact .inr ⟨w.goes i H hlt q, Pv (i + 1), fun H' p' => ⟨n - (i + 1), by omega, rfl, hlt, p'⟩, fun x H' y => hs i x H H' hlt p (w.yields i H x H' hlt q y)⟩
  · obtain rfl : i = n := by omega
    exact .inl ⟨w.stops H q, hd H p⟩
/-! the keys that can come next -/
def insA (x : Int) : List Int → List Int
  | [] => [x]
  | y :: l => if x < y then x :: y :: l else if x = y then y :: l else y :: insA x l
theorem insA_mem {x y : Int} : ∀ {l : List Int}, y ∈ insA x l ↔ y = x ∨ y ∈ l
  | [] => by simp [insA]
  | z :: l => by
    unfold insA
    by_cases h1 : x < z
    · rw [if_pos h1, List.mem_cons]
    · rw [if_neg h1]
      by_cases h2 : x = z
      · rw [if_pos h2]
        subst h2
        simp
      · rw [if_neg h2, List.mem_cons, insA_mem (l := l), List.mem_cons]
        exact ⟨fun h => by rcases h with h | h | h <;> simp [h], fun h => by rcases h with h | h | h <;> simp [h]⟩
theorem insA_asc {x : Int} : ∀ {l : List Int}, l.Pairwise (· < ·) → (insA x l).Pairwise (· < ·)
  | [], _ => List.pairwise_singleton _ _
  | z :: l, h => by
    obtain ⟨h1, h2⟩ := List.pairwise_cons.mp h
    unfold insA
    by_cases a : x < z
    · rw [if_pos a]
      refine List.pairwise_cons.mpr ⟨fun y hy => ?_, h⟩
      rcases List.mem_cons.mp hy with e | e
      · rw [e]; exact a
      · exact Int.lt_trans a (h1 y e)
    · rw [if_neg a]
      by_cases b : x = z
      · rw [if_pos b]
        exact h
      · rw [if_neg b]
        refine List.pairwise_cons.mpr ⟨fun y hy => ?_, insA_asc h2⟩
        rcases insA_mem.mp hy with e | e
        · rw [e]; omega
        · exact h1 y e
/-- the different keys, ascending -/
def ascL (l : List Int) : List Int := l.foldr insA []
theorem ascL_mem {y : Int} : ∀ {l : List Int}, y ∈ ascL l ↔ y ∈ l
  | [] => Iff.rfl
  | x :: l => by
    show y ∈ insA x (ascL l) ↔ _
    rw [insA_mem, ascL_mem (l := l), List.mem_cons]
theorem ascL_asc : ∀ l : List Int, (ascL l).Pairwise (· < ·)
  | [] => List.Pairwise.nil
  | x :: l => insA_asc (ascL_asc l)
theorem asc_nodup {l : List Int} (h : l.Pairwise (· < ·)) : l.Nodup := h.imp fun a => Int.ne_of_lt a
theorem asc_eq {l m : List Int} (h1 : l.Pairwise (· < ·)) (h2 : m.Pairwise (· < ·)) (h : ∀ x, x ∈ l ↔ x ∈ m) : l = m :=
  List.Perm.eq_of_pairwise (fun x y _ _ a b => absurd (Int.lt_trans a b) (Int.lt_irrefl _)) h1 h2 ((List.perm_ext_iff_of_nodup (asc_nodup h1) (asc_nodup h2)).mpr fun x => h x)
theorem insA_len (x : Int) : ∀ l : List Int, (insA x l).length ≤ l.length + 1
  | [] => Nat.le_refl _
  | y :: l => by
    unfold insA
    have := insA_len x l
    split
    · exact Nat.le_refl _
    · split
      · exact Nat.le_succ _
      · simp only [List.length_cons]
        omega
theorem ascL_len : ∀ l : List Int, (ascL l).length ≤ l.length
  | [] => Nat.le_refl _
  | x :: l => by
    have a := ascL_len l
    have b := insA_len x (ascL l)
    show (insA x (ascL l)).length ≤ l.length + 1
    omega
/-- the keys that are left -/
def leftL (ks ps : List Int) : List Int := ps.foldl (fun l u => l.erase u) ks
theorem left_snoc (ks ps : List Int) (u : Int) : leftL ks (ps ++ [u]) = (leftL ks ps).erase u := by
  unfold leftL
  rw [List.foldl_append]
  rfl
theorem left_perm : ∀ {ps ks rest : List Int}, ks.Perm (ps ++ rest) → (leftL ks ps).Perm rest
  | [], ks, rest, h => h
  | u :: ps, ks, rest, h => by
    refine left_perm (ps := ps) (ks := ks.erase u) ?_
    have e := h.erase u
    rw [List.cons_append, List.erase_cons_head] at e
    exact e
theorem pos_of_mem {u : Int} : ∀ {l : List Int}, u ∈ l → ∃ j, l[j]? = some u ∧ (∀ m : Nat, m < j → l[m]? ≠ some u) ∧ l.eraseIdx j = l.erase u
  | [], h => nomatch h
  | a :: l, h => by
    by_cases e : a = u
    · subst e
      exact ⟨0, rfl, fun m hm => absurd hm (Nat.not_lt_zero _), (List.erase_cons_head ..).symm⟩
    · have hm : u ∈ l := by
        rcases List.mem_cons.mp h with y | y
        · exact absurd y.symm e
        · exact y
      obtain ⟨j, h1, h2, h3⟩ := pos_of_mem hm
      refine ⟨j + 1, h1, fun m hm => ?_, ?_⟩
      · cases m with
        | zero =>
          intro z
          exact e (Option.some.inj z)
        | succ m => exact h2 m (by omega)
      · rw [List.erase_cons_tail (by simpa using e), ← h3]
        rfl
def okNext (ps : List Int) (par : Option Nat) (x : Int) : Bool := match par with
  | none => true
  | some p => decide (ps.getD p 0 ≤ x)
def nextL (ks ps : List Int) (par : Option Nat) : List Int := (ascL (leftL ks ps)).filter (okNext ps par)
theorem next_mem {ks ps : List Int} {par : Option Nat} {x : Int} (h : x ∈ nextL ks ps par) : x ∈ leftL ks ps := ascL_mem.mp (List.mem_filter.mp h).1
def spFew : Sp := fun vs H Q _ => ∃ (r m : Nat) (xs : List V), vs = [.ref r, .int m] ∧ Sq H r xs ∧ xs.length ≤ m ∧ Q .non H
theorem ok_few (T : Tx K mg A) : FnOk P w K mg base CX0 2 A.f_check_few A.d_check_few ["row", "most"] spFew := by
  refine T.F_check_few.ok sc_check_few (fun vs H Q E h => ?_) (fun cdv B outer s H vs Q E hr h => ?_)
  · obtain ⟨r, m, xs, rfl, _⟩ := h
    rfl
  · obtain ⟨r, m, xs, rfl, hx, hm, q⟩ := h
    refine ⟨_, (pss_one (ps_if (pt_cmpR op_gt (pe_callB call_len_seq (by rfl) T.g_len PySem.boot_len (pa_cons (pv 0) pa_nil)) (pv 1) (nomark _)) (pss_one ps_never) pss_nil)), ?_⟩
    refine ⟨_, rfl, r, _, rfl, hx.elim (fun e => .inl (SqL.of e)) (fun e => .inr (SqT.of e)), _, rfl, _, _, rfl, rfl, _, rfl, ?_⟩
    rw [decide_eq_false (by omega)]
    exact iteF q
theorem b_few (T : Tx K mg A) : L2.Binds K A.d_check_few ["row", "most"] [] := T.F_check_few.binds fun _ _ _ _ _ _ us hl => match us, hl with | [_, _], _ => rfl
def ParV (ps : List Int) (v : V) (par : Option Nat) : Prop := (v = .non ∧ par = none) ∨ ∃ p : Nat, v = .int p ∧ par = some p ∧ p < ps.length
def spNk : Sp := fun vs H Q _ => ∃ (k h : Nat) (v : V) (ks ps : List Int) (par : Option Nat), vs = [.ref k, .ref h, v] ∧ Sq H k (ks.map V.int) ∧ H h = some (.tup (ps.map V.int)) ∧ (∃ rest, ks.Perm (ps ++ rest)) ∧ ks.length ≤ 12 ∧ ParV ps v par ∧
  ∀ (H' : Hp) (q : Addr), Same H H' → H q = none → H' q = some (.lst ((nextL ks ps par).map V.int)) → Q (.ref q) H'
theorem ok_nk (T : Tx K mg A) : FnOk P w K mg base CX0 3 A.f_next_keys A.d_next_keys ["keys", "heap", "parent"] spNk := by
  refine T.F_next_keys.ok sc_next_keys (fun vs H Q E h => ?_) (fun cdv B outer s H vs Q E hr h => ?_)
  · obtain ⟨k, h, v, ks, ps, par, rfl, _⟩ := h
    rfl
  · obtain ⟨k, h, v, ks, ps, par, rfl, hk, hh, ⟨rest, hperm⟩, h12, hpar, q⟩ := h
    have nd := sc_next_keys.nd
    refine ⟨_, (pss_cons (ps_set (i := 3) nd rfl (Or.inl rfl) (pe_callTy call_list_of (by rfl) T.g_list (by decide +kernel) (pa_cons (pv 0) pa_nil)))
      (C8.pss_cut (ps_for PassesOwn.never rfl (pi_tup (pv 1)) (pg_name (i := 4) nd rfl (Or.inl rfl)) (pss_one (ps_expr (pe_bm PySem.F.plainAttrs_list PySem.F.slot_list_remove PySem.F.type_list_remove mt_remove (pv 3) (pa_cons (pv 4) pa_nil)))))
      (pss_one (ps_ret (pe_lc (own := [("key", 5)]) (g := gName 5) rfl nd (pi_list (pe_callB (cr_sortedSet rfl) (by rfl) T.g_sorted (by decide +kernel) (pa_cons (pe_callTy (cr_setLI rfl) (by rfl) T.g_set (by decide +kernel) (pa_cons (pv 3) pa_nil)) pa_nil))) (blkOk_by (own := [("key", 5)]) (N := ["keys", "heap", "parent", "left", "used", "key"]) (sc := defScope s_next_keys) (by decide +kernel)) (fun _ _ _ _ _ => pg_name (i := 5) nd rfl (Or.inl rfl)) (fun _ _ _ _ _ => pts_one (PW.pt (pw_or (pt_cmpR op_isN (pv 2) pe_non (nomark _)) (pw_or1 (pt_cmpR op_ge (pv 5) (pe_ix (r := rIx K) ix_seq (pv 1) (pv 2) (fun _ _ => rfl)) (nomark _)))))) (fun _ _ _ _ _ => pv 5)))))), ?_⟩
    refine ⟨_, rfl, k, _, rfl, hk.elim (fun e => .inl (SqL.of e)) (fun e => .inr (SqT.of e)), fun D nD => ?_⟩
    have ac0 : Acc H D ((leftL ks (ps.take 0)).map V.int) (upd H D (.lst (ks.map V.int))) := ⟨Same.up nD, nD, upd_same⟩
    refine ⟨fun σ' H' => ∃ x4, σ' = [some (.ref k), some (.ref h), some v, some (.ref D), x4, none] ∧ Acc H D ((leftL ks ps).map V.int) H', ?_, ?_⟩
    · refine ⟨_, rfl, h, rfl, ⟨_, SqT.of ((Same.up nD) _ _ hh)⟩, for_it (walk_tup (xs := ps.map V.int)) (fun i σ' H' => ∃ x4, σ' = [some (.ref k), some (.ref h), some v, some (.ref D), x4, none] ∧ Acc H D ((leftL ks (ps.take i)).map V.int) H') ⟨none, rfl, ac0⟩ (fun i σ' H' _ ⟨_, _, ac⟩ => SqT.of (ac.s _ _ hh)) ?_ ?_⟩
      · rintro i x σ' H1 H2 hi ⟨x4, rfl, ac⟩ ⟨rfl, hx⟩
        obtain ⟨hi2, rfl⟩ := ints_at hx
        have hl : (leftL ks (ps.take i)).Perm (ps[i] :: (ps.drop (i + 1) ++ rest)) := left_perm (by
          refine hperm.trans (List.Perm.of_eq ?_)
          rw [← List.cons_append, ← List.append_assoc, ← List.drop_eq_getElem_cons hi2, List.take_append_drop])
        obtain ⟨j, j1, j2, j3⟩ := pos_of_mem (hl.mem_iff.mpr List.mem_cons_self)
        refine ⟨_, rfl, .inl ⟨rfl, _, SqL.of ac.a⟩, _, rfl, D, _, ps[i], j, rfl, rfl, ac.a, j1, j2, ?_⟩
        refine ⟨_, rfl, ?_⟩
        rw [j3, ← List.take_append_getElem hi2, left_snoc]
        exact ac.push
      · rintro σ' H1 ⟨x4, rfl, ac⟩
        rw [List.length_map, List.take_length] at ac
        exact ⟨x4, rfl, ac⟩
    rintro σ' H1 ⟨x4, rfl, ac1⟩
    have hleft := left_perm hperm
    have hll : (leftL ks ps).length ≤ 12 := by
      have a := hperm.length_eq
      have b := hleft.length_eq
      rw [List.length_append] at a
      omega
    refine ⟨_, rfl, D, _, rfl, SqL.of ac1.a, by omega, fun p n hn np => ?_⟩
    have s2 := Same.up (o := SetO w p (fun j => decide (j ∈ leftL ks ps)) n) np
    refine ⟨p, _, n, rfl, upd_same, by omega, fun ns p2 hasc hmem hlen np2 => ?_⟩
    have s3 := s2.trans (Same.up (o := .lst (ns.map V.int)) np2)
    obtain rfl : ns = ascL (leftL ks ps) := asc_eq hasc (ascL_asc _) fun x => by
      rw [hmem, ascL_mem, decide_eq_true_eq]
    have e2 := upd_same (H := upd H1 p (SetO w p (fun j => decide (j ∈ leftL ks ps)) n)) (a := p2) (o := .lst ((ascL (leftL ks ps)).map V.int))
    obtain ⟨H2, hH2⟩ : ∃ G : Hp, G = upd (upd H1 p (SetO w p (fun j => decide (j ∈ leftL ks ps)) n)) p2 (.lst ((ascL (leftL ks ps)).map V.int)) := ⟨_, rfl⟩
    have e3 : H2 p2 = some (.lst ((ascL (leftL ks ps)).map V.int)) := by rw [hH2]; exact e2
    have s12 : Same H H2 := by rw [hH2]; exact ac1.s.trans s3
    refine ⟨p2, rfl, ⟨_, SqL.of e2⟩, fun D2 nD2 => ?_⟩
    have hal := ascL_len (leftL ks ps)
    refine lc_it (walk_list (xs := (ascL (leftL ks ps)).map V.int)) (fun i H' => Acc H2 D2 ((((ascL (leftL ks ps)).take i).filter (okNext ps par)).map V.int) H') (by rw [hH2]; exact Acc.start nD2) (fun i H' _ ac => SqL.of (ac.s _ _ e3)) ?_ ?_
    · rintro i x H3 H4 hi ac ⟨rfl, hx⟩
      obtain ⟨hi2, rfl⟩ := ints_at hx
      have et : ((ascL (leftL ks ps)).take (i + 1)).filter (okNext ps par) = ((ascL (leftL ks ps)).take i).filter (okNext ps par) ++ if okNext ps par (ascL (leftL ks ps))[i] = true then [(ascL (leftL ks ps))[i]] else [] := by
        rw [← List.take_append_getElem hi2, List.filter_append]
        congr 1
        by_cases hc : okNext ps par (ascL (leftL ks ps))[i] = true
        · rw [if_pos hc, List.filter_cons_of_pos hc]; rfl
        · rw [if_neg hc, List.filter_cons_of_neg hc]; rfl
      have hfl : (((ascL (leftL ks ps)).take i).filter (okNext ps par)).length ≤ 12 := Nat.le_trans (List.length_filter_le _ _) (by rw [List.length_take]; omega)
      have yes : okNext ps par (ascL (leftL ks ps))[i] = true → ∃ acc, H4 D2 = some (.lst acc) ∧ acc.length < sizeLine ∧ Acc H2 D2 ((((ascL (leftL ks ps)).take (i + 1)).filter (okNext ps par)).map V.int) (upd H4 D2 (.lst (acc ++ [V.int (ascL (leftL ks ps))[i]]))) := fun hc => by
        refine ⟨_, ac.a, small1000 (by rw [List.length_map]; omega), ?_⟩
        rw [et, if_pos hc, List.map_append]
        exact ac.push
      rcases hpar with ⟨rfl, rfl⟩ | ⟨pp, rfl, rfl, hpp⟩
      · refine ⟨rfl, _, rfl, rfl, _, rfl, ?_⟩
        rw [decide_eq_true rfl]
        refine iteT (iteT ⟨_, rfl, yes rfl⟩)
      · refine ⟨rfl, _, rfl, rfl, _, rfl, ?_⟩
        rw [decide_eq_false (by intro z; cases z)]
        refine iteF ⟨_, rfl, _, rfl, _, rfl, .inr (.inl ⟨h, _, _, _, rfl, rfl, SqT.of (ac.s _ _ (s12 _ _ hh)), key_at hpp, _, _, rfl, rfl, _, rfl, ?_⟩)⟩
        by_cases hc : keyAt ps pp ≤ (ascL (leftL ks ps))[i]
        · rw [decide_eq_true (show (ascL (leftL ks ps))[i] ≥ keyAt ps pp from hc)]
          exact iteT ⟨_, rfl, yes (decide_eq_true hc)⟩
        · rw [decide_eq_false (show ¬ (ascL (leftL ks ps))[i] ≥ keyAt ps pp from hc)]
          refine iteF ?_
          have hf : ¬ okNext ps (some pp) (ascL (leftL ks ps))[i] = true := fun z => hc (of_decide_eq_true z)
          rw [et, if_neg hf, List.append_nil]
          exact ac
    · intro H3 ac
      rw [List.length_map, List.take_length] at ac
      exact q _ D2 (s12.trans ac.s) (s12.free ac.n) ac.a
theorem b_nk (T : Tx K mg A) : L2.Binds K A.d_next_keys ["keys", "heap", "parent"] [] := T.F_next_keys.binds fun _ _ _ _ _ _ us hl => match us, hl with | [_, _, _], _ => rfl

end
end Tw

set_option Elab.async false
set_option linter.all false
set_option maxRecDepth 100000
set_option maxHeartbeats 2000000
namespace Tw
open PySem PySem.Spec PyProof.Rows L2
section
variable {P : Program} {w : World} {K : PySem.W.Frag} {mg : Str → Option Value} {base : Heap} {A : Ad}
/-! all heaps -/
def parO (w i : Nat) : Option Nat := if i = 0 then none else some ((i - 1) / w)
def extL (ks : List Int) (w : Nat) : Nat → List (List Int)
  | 0 => [[]]
  | i + 1 => (extL ks w i).flatMap fun p => (nextL ks p (parO w i)).map fun x => p ++ [x]
def allH (ks : List Int) (w : Nat) : List (List Int) := extL ks w ks.length
theorem ext_ok {ks : List Int} {w : Nat} : ∀ i, i ≤ ks.length → ∀ p ∈ extL ks w i, p.length = i ∧ ∃ rest, ks.Perm (p ++ rest)
  | 0, _, p, hp => by
    rw [List.mem_singleton.mp hp]
    exact ⟨rfl, ks, List.Perm.refl _⟩
  | i + 1, hi, p, hp => by
    obtain ⟨q, hq, hx⟩ := List.mem_flatMap.mp hp
    obtain ⟨x, hx2, rfl⟩ := List.mem_map.mp hx
    obtain ⟨h1, rest, h2⟩ := ext_ok i (by omega) q hq
    have hm : x ∈ rest := (left_perm h2).mem_iff.mp (next_mem hx2)
    refine ⟨by rw [List.length_append, h1]; rfl, rest.erase x, h2.trans ?_⟩
    rw [List.append_assoc]
    exact List.Perm.append_left q (List.perm_cons_erase hm)
theorem next_len {ks p rest : List Int} {par : Option Nat} (h : ks.Perm (p ++ rest)) : (nextL ks p par).length ≤ ks.length - p.length := by
  have a := h.length_eq
  have b := (left_perm h).length_eq
  have c := ascL_len (leftL ks p)
  have d : (nextL ks p par).length ≤ (ascL (leftL ks p)).length := List.length_filter_le _ _
  rw [List.length_append] at a
  omega
theorem flat_len {α β : Type} (f : α → List β) (c : Nat) : ∀ l : List α, (∀ a ∈ l, (f a).length ≤ c) → (l.flatMap f).length ≤ l.length * c
  | [], _ => by simp
  | a :: l, h => by
    have h1 := h a List.mem_cons_self
    have h2 := flat_len f c l fun b hb => h b (List.mem_cons_of_mem _ hb)
    rw [List.flatMap_cons, List.length_append, List.length_cons, Nat.succ_mul]
    omega
def bndH (i : Nat) : Nat := [1, 8, 56, 336, 1680, 6720, 20160, 40320, 40320].getD i 0
theorem ext_len {ks : List Int} {w : Nat} (h8 : ks.length ≤ 8) : ∀ i, i ≤ ks.length → (extL ks w i).length ≤ bndH i
  | 0, _ => Nat.le_refl _
  | i + 1, hi => by
    have h1 := ext_len h8 i (by omega) (w := w)
    have h2 := flat_len (fun p => (nextL ks p (parO w i)).map fun x => p ++ [x]) (8 - i) (extL ks w i) (fun p hp => by
      obtain ⟨e, rest, hr⟩ := ext_ok i (by omega) p hp
      have := next_len (par := parO w i) hr
      rw [List.length_map]
      omega)
    have h3 : bndH i * (8 - i) ≤ bndH (i + 1) := by
      have : ∀ j, j < 8 → bndH j * (8 - j) ≤ bndH (j + 1) := by decide
      exact this i (by omega)
    exact Nat.le_trans h2 (Nat.le_trans (Nat.mul_le_mul_right _ h1) h3)
theorem bnd_top (i : Nat) (h : i ≤ 8) : bndH i ≤ 40320 := by
  have : ∀ j, j < 9 → bndH j ≤ 40320 := by decide
  exact this i (by omega)
/-- a tuple of keys at an address -/
def RowAt (H : Hp) (v : V) (l : List Int) : Prop := ∃ t, v = .ref t ∧ H t = some (.tup (l.map V.int))
abbrev RowsAt (H : Hp) : List V → List (List Int) → Prop := Paired (RowAt H)
theorem RowsAt.same {H H' : Hp} {xs : List V} {ls : List (List Int)} (h : RowsAt H xs ls) (s : Same H H') : RowsAt H' xs ls := L2.Paired.mapP h fun _ _ ⟨t, e, z⟩ => ⟨t, e, s _ _ z⟩
theorem RowsAt.push {H : Hp} {x : V} {l : List Int} (hp : RowAt H x l) : ∀ {xs : List V} {ls : List (List Int)}, RowsAt H xs ls → RowsAt H (xs ++ [x]) (ls ++ [l])
  | _, _, .nil => .cons hp .nil
  | _, _, .cons a b => .cons a (RowsAt.push hp b)
theorem RowsAt.put {H : Hp} {D : Addr} {xs zs ys : List V} {ls : List (List Int)} (hD : H D = some (.lst zs)) (h : RowsAt H xs ls) : RowsAt (upd H D (.lst ys)) xs ls :=
  L2.Paired.mapP h fun _ _ ⟨t, e, z⟩ => ⟨t, e, by rw [upd_ne (ne_of z hD (by intro q; cases q))]; exact z⟩
theorem RowsAt.get {H : Hp} : ∀ {xs : List V} {ls : List (List Int)} {i : Nat} {x : V}, RowsAt H xs ls → xs[i]? = some x → ∃ hi : i < ls.length, RowAt H x ls[i]
  | _, _, 0, _, .cons a _, e => ⟨Nat.succ_pos _, by rw [← Option.some.inj e]; exact a⟩
  | _, _, i + 1, _, .cons _ b, e => by
    obtain ⟨hi, r⟩ := RowsAt.get b (by simpa using e)
    exact ⟨Nat.succ_lt_succ hi, r⟩
structure AccR (H1 : Hp) (D : Addr) (ls : List (List Int)) (H : Hp) : Prop where
  s : Same H1 H
  n : H1 D = Option.none
  a : ∃ xs, H D = some (.lst xs) ∧ RowsAt H xs ls
theorem AccR.start {H1 : Hp} {D : Addr} (n : H1 D = none) : AccR H1 D [] (upd H1 D (.lst [])) := ⟨Same.up n, n, [], upd_same, .nil⟩
theorem AccR.same {H1 H H' : Hp} {D : Addr} {ls : List (List Int)} (h : AccR H1 D ls H) (s : Same H H') : AccR H1 D ls H' := ⟨h.s.trans s, h.n, let ⟨xs, e, z⟩ := h.a; ⟨xs, s _ _ e, z.same s⟩⟩
theorem AccR.push {H1 H : Hp} {D : Addr} {ls : List (List Int)} {x : V} {l : List Int} (h : AccR H1 D ls H) (hp : RowAt H x l) (hl : ls.length < sizeLine) :
    ∃ acc, H D = some (.lst acc) ∧ acc.length < sizeLine ∧ AccR H1 D (ls ++ [l]) (upd H D (.lst (acc ++ [x]))) := by
  obtain ⟨xs, e, z⟩ := h.a
  refine ⟨xs, e, by rw [z.length]; exact hl, fun b o k => ?_, h.n, xs ++ [x], upd_same, (RowsAt.push hp z).put e⟩
  rw [upd_ne (ne_of_none k h.n)]
  exact h.s b o k
theorem plAt {n i : Nat} {x : V} (h : (pl n)[i]? = some x) : i < n ∧ x = V.int (i : Nat) := by
  unfold pl at h
  rw [List.getElem?_map] at h
  by_cases hi : i < n
  · rw [List.getElem?_range hi] at h
    exact ⟨hi, (Option.some.inj h).symm⟩
  · rw [List.getElem?_eq_none (by rw [List.length_range]; omega)] at h
    cases h
def spAh (K : PySem.W.Frag) : Sp := fun vs H Q _ => ∃ (k w : Nat) (ks : List Int), vs = [.ref k, .int w] ∧ (1 ≤ w ∧ w ≤ 4) ∧ Sq H k (ks.map V.int) ∧ ks.length ≤ 8 ∧ (∀ n ∈ ks, -1000000000 ≤ n ∧ n ≤ 1000000000) ∧
  ∀ (H' : Hp) (q : Addr) (xs : List V), Same H H' → H q = none → H' q = some (.lst xs) → RowsAt H' xs (allH ks w) → Q (.ref q) H'
theorem ok_ah (T : Tx K mg A) : FnOk P w K mg base CX0 8 A.f_all_heaps A.d_all_heaps ["keys", "arms"] (spAh K) := by
  obtain ⟨mo, ko⟩ := kb_of T
  refine T.F_all_heaps.ok sc_all_heaps (fun vs H Q E h => ?_) (fun cdv B outer s H vs Q E hr h => ?_)
  · obtain ⟨k, w, ks, rfl, _⟩ := h
    rfl
  · obtain ⟨k, w, ks, rfl, hw, hk, h8, hb, q⟩ := h
    have nd := sc_all_heaps.nd
    obtain ⟨t8, hg⟩ := cst T.c_MOST_KEYS
    refine ⟨_, PSs.nox (pss_cons (ps_set (i := 2) nd rfl (Or.inr rfl) (pe_cmethK (pe_glob (v := .ref A.C) (by rfl) T.mC (relR _)) T.cr T.cof (ok_of T) (hr.mono (by decide)) ko pass0 (pa_cons (pv 0) pa_nil) (pk_cons (pv 1) pk_nil)))
      (pss_cons (ps_expr (pe_call (ok_few T) (hr.mono (by decide)) (by rfl) T.m_check_few T.F_check_few.kp (b_few T) .nil pass0 (pa_cons (pv 0) (pa_cons (pe_glob (by rfl) hg (relI _ _)) pa_nil))))
      (pss_cons (ps_set (i := 3) nd rfl (Or.inl rfl) (pe_lst (pa_cons (pe_tup pa_nil) pa_nil)))
      (C8.pss_cut (ps_for PassesOwn.never rfl (pi_own T.D_t___iter__ (ok_iter T) (hr.mono (by decide)) (b_iter T) (pv 2)) (pg_name (i := 4) nd rfl (Or.inr rfl)) (pss_one (ps_setLc2 (i := 3) (own := [("heap", 5), ("key", 6)]) (vs1 := [6]) (g := gName 5) (g1 := gName 6) (tt := tYes) (tt1 := tYes) (wi1 := iList K (tCall spNk [] E0 (tCons (tVar 0) (tCons (tVar 5) (tCons (tMeth A.C "parent" (spPar A.C) [] E0 (tVar 2) (tCons (tVar 4) tNil)) tNil))))) rfl nd rfl rfl (sw_true rfl rfl rfl (by decide +kernel)) (pi_list (pv 3)) (blkOk_by (own := [("heap", 5), ("key", 6)]) (N := ["keys", "arms", "tree", "heaps", "place", "heap", "key"]) (sc := defScope s_all_heaps) (by decide +kernel)) (by decide)
        (fun _ _ _ _ _ => pg_name (i := 5) nd rfl (Or.inl rfl)) (fun _ _ _ _ _ => pts_nil)
        (fun _ _ _ _ _ => pi_list (pe_call (ok_nk T) (hr.mono (by decide)) (by rfl) T.m_next_keys T.F_next_keys.kp (b_nk T) .nil pass0 (pa_cons (pv 0) (pa_cons (pv 5) (pa_cons (pe_meth (pv 2) T.cT T.M_t_parent (ok_par T) (hr.mono (by decide)) (b_par T) .nil pass0 (pa_cons (pv 4) pa_nil)) pa_nil)))))
        (fun _ _ _ _ _ => pg_name (i := 6) nd rfl (Or.inl rfl)) (fun _ _ _ _ _ => pts_nil)
        (fun _ _ _ _ _ => (pe_op (r := rCatA K) op_catA (pv 5) (pe_tup (pa_cons (pv 6) pa_nil)))))))
      (pss_one (ps_ret (pv 3))))))), ?_⟩
    refine ⟨rfl, _, rfl, _, rfl, rfl, rfl, k, w, ks, rfl, hw, hk, by omega, hb, fun H1 p s1 p0 t1 => ?_⟩
    obtain ⟨dx, l, h1, h2⟩ := id t1.ob
    have noP : (tf ks.length w l).lookup ("parent" : Str) = none := tf_no _ _ _ (by decide +kernel) (by decide +kernel) (by decide +kernel)
    refine ⟨_, rfl, k, 8, ks.map V.int, rfl, hk.same s1, by rw [List.length_map]; exact h8, ?_⟩
    refine ⟨Nat.zero_le _, fun e ne => ⟨by show 1 ≤ sizeLine; decide, fun D nD => ?_⟩⟩
    have se := Same.up (o := .tup []) ne
    have ac0 : AccR (upd H1 e (.tup [])) D (extL ks w 0) (upd (upd H1 e (.tup [])) D (.lst [V.ref e])) := ⟨Same.up nD, nD, [V.ref e], upd_same, .cons ⟨e, rfl, (Same.up nD) _ _ upd_same⟩ .nil⟩
    have s2 := se.trans ac0.s
    have hkp : ∀ {G : Hp}, Same H1 G → H1 k ≠ none → Sq G k (ks.map V.int) := fun s _ => (hk.same s1).same s
    refine ⟨fun σ' H' => ∃ (x4 : Option V) (q3 : Addr) (xs : List V), σ' = [some (.ref k), some (.int w), some (.ref p), some (.ref q3), x4, none, none] ∧ Same H1 H' ∧ H1 q3 = none ∧ H' q3 = some (.lst xs) ∧ RowsAt H' xs (allH ks w), ?_, ?_⟩
    · refine ⟨_, rfl, p, dx, _, l, _, rfl, s2 _ _ h1, tf_pl _ _ _, SqT.of (s2 _ _ h2), ?_⟩
      refine for_it (walk_tup (xs := pl ks.length)) (fun i σ' H' => ∃ (x4 : Option V) (q3 : Addr) (xs : List V), σ' = [some (.ref k), some (.int w), some (.ref p), some (.ref q3), x4, none, none] ∧ Same H1 H' ∧ H1 q3 = none ∧ H' q3 = some (.lst xs) ∧ RowsAt H' xs (extL ks w i)) ⟨none, D, _, rfl, s2, se.free nD, upd_same, .cons ⟨e, rfl, (Same.up nD) _ _ upd_same⟩ .nil⟩ (fun i σ' H' _ ⟨_, _, _, _, s, _⟩ => SqT.of (s _ _ h2)) ?_ ?_
      · rintro i x σ' H3o H3 hi ⟨x4, q3, xs, rfl, s3, n3, e3, r3⟩ ⟨rfl, hx⟩
        obtain ⟨hi2, rfl⟩ := plAt hx
        have hel := ext_len (w := w) h8 i (by omega)
        have hbt := bnd_top i (by omega)
        refine ⟨_, rfl, q3, rfl, ⟨_, SqL.of e3⟩, fun D2 nD2 => ?_⟩
        refine walk_gen (walk_list (xs := xs)) (fun m H' => AccR H3 D2 (((extL ks w i).take m).flatMap fun p => (nextL ks p (parO w i)).map fun x => p ++ [x]) H') (AccR.start nD2) (fun m H' _ ac => SqL.of (ac.s _ _ e3)) ?_ ?_
        · rintro m y H4o H4 hm ac ⟨rfl, hy⟩
          obtain ⟨hm2, t, rfl, et⟩ := r3.get hy
          obtain ⟨hpl, rest, hperm⟩ := ext_ok i (by omega) _ (List.getElem_mem hm2)
          have hnl := next_len (par := parO w i) hperm
          have hcl := flat_len (fun p => (nextL ks p (parO w i)).map fun x => p ++ [x]) 8 ((extL ks w i).take m) (fun p hp => by
            obtain ⟨_, rest, hr⟩ := ext_ok i (by omega) p (List.mem_of_mem_take hp)
            have := next_len (par := parO w i) hr
            rw [List.length_map]
            omega)
          have hml : ((extL ks w i).take m).length ≤ 40320 := by rw [List.length_take]; omega
          have et4 := ac.s _ _ et
          have s4 := s3.trans ac.s
          refine ⟨rfl, iteT (B := AccR H3 D2 (((extL ks w i).take (m + 1)).flatMap fun p => (nextL ks p (parO w i)).map fun x => p ++ [x]) H4) ?_⟩
          refine ⟨_, rfl, _, rfl, _, rfl, p, dx, _, rfl, s4 _ _ h1, noP, _, rfl, p, ks.length, w, i, rfl, t1.same s4, hi2, ?_⟩
          refine ⟨k, t, parV w i, ks, (extL ks w i)[m], parO w i, rfl, (hk.same s1).same s4, et4, ⟨rest, hperm⟩, by omega, ?_, fun H6 q6 s6 n6 e6 => ?_⟩
          · unfold parV parO
            by_cases h0 : i = 0
            · rw [if_pos h0, if_pos h0]
              exact .inl ⟨rfl, rfl⟩
            · rw [if_neg h0, if_neg h0]
              have : (i - 1) / w ≤ i - 1 := Nat.div_le_self _ _
              exact .inr ⟨_, rfl, rfl, by omega⟩
          have ac6 := ac.same s6
          have et6 := s6 _ _ et4
          refine ⟨q6, rfl, ⟨_, SqL.of e6⟩, ?_⟩
          rw [show ((extL ks w i).take (m + 1)) = (extL ks w i).take m ++ [(extL ks w i)[m]] from (List.take_append_getElem hm2).symm, List.flatMap_append, List.flatMap_cons, List.flatMap_nil, List.append_nil]
          have hq6 : q6 ≠ D2 := fun z => by
            obtain ⟨zs, ez, _⟩ := ac.a
            rw [z, ez] at n6
            cases n6
          refine walk_gen (walk_list (xs := (nextL ks (extL ks w i)[m] (parO w i)).map V.int)) (fun j H' => AccR H3 D2 ((((extL ks w i).take m).flatMap fun p => (nextL ks p (parO w i)).map fun x => p ++ [x]) ++ ((nextL ks (extL ks w i)[m] (parO w i)).take j).map fun x => (extL ks w i)[m] ++ [x]) H' ∧ H' q6 = some (.lst ((nextL ks (extL ks w i)[m] (parO w i)).map V.int)) ∧ H' t = some (.tup ((extL ks w i)[m].map V.int))) ⟨?_, e6, et6⟩ (fun j H' _ h => SqL.of h.2.1) ?_ ?_
          · rw [List.take_zero, List.map_nil, List.append_nil]
            exact ac6
          · rintro j z H7o H7 hj ⟨ac7, e7, et7⟩ ⟨rfl, hz⟩
            obtain ⟨hj2, rfl⟩ := ints_at hz
            refine ⟨rfl, iteT (B := AccR H3 D2 ((((extL ks w i).take m).flatMap fun p => (nextL ks p (parO w i)).map fun x => p ++ [x]) ++ ((nextL ks (extL ks w i)[m] (parO w i)).take (j + 1)).map fun x => (extL ks w i)[m] ++ [x]) H7 ∧ H7 q6 = some (.lst ((nextL ks (extL ks w i)[m] (parO w i)).map V.int)) ∧ H7 t = some (.tup ((extL ks w i)[m].map V.int))) ?_⟩
            have hjl : ((nextL ks (extL ks w i)[m] (parO w i)).take j).length ≤ 8 := by rw [List.length_take]; omega
            have room : ((((extL ks w i).take m).flatMap fun p => (nextL ks p (parO w i)).map fun x => p ++ [x]) ++ ((nextL ks (extL ks w i)[m] (parO w i)).take j).map fun x => (extL ks w i)[m] ++ [x]).length < sizeLine := by
              rw [List.length_append, List.length_map, sizeLine_eq]
              omega
            have fin : ∀ (c : Addr) (G : Hp), Same H7 G → G c = some (.tup (((extL ks w i)[m] ++ [(nextL ks (extL ks w i)[m] (parO w i))[j]]).map V.int)) → ∃ acc, G D2 = some (.lst acc) ∧ acc.length < sizeLine ∧ (AccR H3 D2 ((((extL ks w i).take m).flatMap fun p => (nextL ks p (parO w i)).map fun x => p ++ [x]) ++ ((nextL ks (extL ks w i)[m] (parO w i)).take (j + 1)).map fun x => (extL ks w i)[m] ++ [x]) (upd G D2 (.lst (acc ++ [V.ref c]))) ∧ upd G D2 (.lst (acc ++ [V.ref c])) q6 = some (.lst ((nextL ks (extL ks w i)[m] (parO w i)).map V.int)) ∧ upd G D2 (.lst (acc ++ [V.ref c])) t = some (.tup ((extL ks w i)[m].map V.int))) := fun c G s ec => by
              obtain ⟨acc, a1, a2, a3⟩ := (ac7.same s).push (x := .ref c) (l := (extL ks w i)[m] ++ [(nextL ks (extL ks w i)[m] (parO w i))[j]]) ⟨c, rfl, ec⟩ room
              refine ⟨acc, a1, a2, ?_, ?_, ?_⟩
              · rw [← List.take_append_getElem hj2, List.map_append, ← List.append_assoc]
                exact a3
              · rw [upd_ne hq6]
                exact s _ _ e7
              · rw [upd_ne (ne_of (s _ _ et7) a1 (by intro y; cases y))]
                exact s _ _ et7
            refine ⟨_, rfl, _, rfl, by show 1 ≤ sizeLine; decide, fun u nu => ?_⟩
            have su := Same.up (o := .tup [V.int (nextL ks (extL ks w i)[m] (parO w i))[j]]) nu
            refine ⟨t, u, _, _, rfl, rfl, SqT.of (su _ _ et7), SqT.of upd_same, Nat.le_of_lt (small1000 (by rw [List.length_map, List.length_singleton]; omega)), fun hn => ?_, fun _ y => (nomatch y), fun hn _ c nc => ?_⟩
            · have e0 : (extL ks w i)[m] = [] := List.map_eq_nil_iff.mp hn
              refine fin u _ su ?_
              generalize (nextL ks (extL ks w i)[m] (parO w i))[j] = zz
              rw [e0]
              exact upd_same
            · rw [map_one]
              exact fin c _ (su.trans (Same.up nc)) upd_same
          · rintro H7 ⟨ac7, _, _⟩
            rw [List.length_map, List.take_length] at ac7
            exact ac7
        · intro H4 ac
          have hxl : xs.length = (extL ks w i).length := Paired.length r3
          rw [hxl, List.take_length] at ac
          obtain ⟨ys, ey, ry⟩ := ac.a
          exact ⟨_, D2, ys, rfl, s3.trans ac.s, s3.free nD2, ey, ry⟩
      · rintro σ' H3 ⟨x4, q3, xs, rfl, s3, n3, e3, r3⟩
        rw [pl_len] at r3
        exact ⟨x4, q3, xs, rfl, s3, n3, e3, r3⟩
    · rintro σ' H3 ⟨x4, q3, xs, rfl, s3, n3, e3, r3⟩
      exact ⟨_, rfl, q H3 q3 xs (s1.trans s3) (s1.free n3) e3 r3⟩
theorem kb_ah (T : Tx K mg A) : ∃ mv : List Value, KBn K A.d_all_heaps ["keys", "arms"] 1 ["arms"] (fun us ws => us ++ (mv ++ ws)) (fun vs zs => vs ++ zs) := by
  obtain ⟨mv, h⟩ := T.F_all_heaps.kbinds0 (ps := ["keys", "arms"]) 1 ["arms"] [] (fun us mv ws => us ++ (mv ++ ws)) (by simp) (by simp) (fun r1 r2 r3 => r1.append (r2.append r3))
    (fun D doc pm an cdv ct us mv ws h1 h2 h3 => by
      match us, mv, ws, h1, h2, h3 with
      | [a], [], [c], _, _, _ => rfl)
  exact ⟨mv, h⟩
theorem bd_ah (T : Tx K mg A) : ∃ ds, Vals [V.int 2] ds ∧ L2.Binds K A.d_all_heaps ["keys", "arms"] ds := by
  refine T.F_all_heaps.binds0 1 (by simp) rfl (fun D doc pm an cdv ct us ks h1 h2 => ?_)
  match us, ks, h1, h2 with
  | [a], [c], _, _ => exact ⟨_, _, _, _, _, _, rfl, rfl, rfl⟩

end
end Tw

set_option Elab.async false
set_option linter.all false
set_option maxRecDepth 100000
set_option maxHeartbeats 2000000
namespace Tw
open PySem PySem.Spec PyProof.Rows L2
section
variable {P : Program} {w : World} {K : PySem.W.Frag} {mg : Str → Option Value} {base : Heap} {A : Ad}
/-! all orders, ascending, and the heaps among them -/
def permsL : Nat → List Int → List (List Int)
  | 0, _ => [[]]
  | n + 1, l => (ascL l).flatMap fun x => (permsL n (l.erase x)).map fun s => x :: s
theorem ascL_perm {l m : List Int} (h : l.Perm m) : ascL l = ascL m := asc_eq (ascL_asc l) (ascL_asc m) fun x => by rw [ascL_mem, ascL_mem, h.mem_iff]
theorem permsL_perm : ∀ (n : Nat) {l m : List Int}, l.Perm m → permsL n l = permsL n m
  | 0, _, _, _ => rfl
  | n + 1, l, m, h => by
    unfold permsL
    rw [ascL_perm h]
    refine congrArg (fun f => (ascL m).flatMap f) (funext fun x => ?_)
    rw [permsL_perm n (h.erase x)]
theorem flat_congr {α β : Type} {f g : α → List β} : ∀ l : List α, (∀ a ∈ l, f a = g a) → l.flatMap f = l.flatMap g
  | [], _ => rfl
  | a :: l, h => by
    rw [List.flatMap_cons, List.flatMap_cons, h a List.mem_cons_self, flat_congr l fun b hb => h b (List.mem_cons_of_mem _ hb)]
/-- going deep at once -/
def dfsL (w : Nat) : Nat → List Int → List Int → List (List Int)
  | 0, p, _ => [p]
  | m + 1, p, l => ((ascL l).filter (okNext p (parO w p.length))).flatMap fun x => dfsL w m (p ++ [x]) (l.erase x)
theorem flat_one {α : Type} : ∀ l : List α, (l.flatMap fun p => [p]) = l
  | [] => rfl
  | a :: l => by rw [List.flatMap_cons, flat_one l]; rfl
theorem bfs_dfs {ks : List Int} {w : Nat} : ∀ (m i : Nat), i + m = ks.length → allH ks w = (extL ks w i).flatMap fun p => dfsL w m p (leftL ks p)
  | 0, i, h => by
    have e : i = ks.length := by omega
    subst e
    exact (flat_one _).symm
  | m + 1, i, h => by
    rw [bfs_dfs m (i + 1) (by omega)]
    show ((extL ks w i).flatMap fun p => (nextL ks p (parO w i)).map fun x => p ++ [x]).flatMap _ = _
    rw [List.flatMap_assoc]
    refine flat_congr _ fun p hp => ?_
    rw [List.flatMap_map]
    have hpl := (ext_ok i (by omega) p hp).1
    show _ = ((ascL (leftL ks p)).filter (okNext p (parO w p.length))).flatMap _
    rw [hpl]
    refine flat_congr _ fun x _ => ?_
    rw [left_snoc]
def heapB (w : Nat) (r : List Int) : Bool := (List.range r.length).all fun c => decide (c = 0) || decide (r.getD ((c - 1) / w) 0 ≤ r.getD c 0)
theorem heapB_iff {w : Nat} {r : List Int} : heapB w r = true ↔ ∀ c, 1 ≤ c → c < r.length → r.getD ((c - 1) / w) 0 ≤ r.getD c 0 := by
  unfold heapB
  rw [List.all_eq_true]
  refine ⟨fun h c h1 h2 => ?_, fun h c hc => ?_⟩
  · have := h c (List.mem_range.mpr h2)
    rw [Bool.or_eq_true, decide_eq_true_eq, decide_eq_true_eq] at this
    rcases this with e | e
    · omega
    · exact e
  · rw [Bool.or_eq_true, decide_eq_true_eq, decide_eq_true_eq]
    by_cases e : c = 0
    · exact .inl e
    · exact .inr (h c (by omega) (List.mem_range.mp hc))
theorem getD_left {a b : List Int} {c : Nat} (h : c < a.length) : (a ++ b).getD c 0 = a.getD c 0 := by
  rw [List.getD_eq_getElem?_getD, List.getD_eq_getElem?_getD, List.getElem?_append_left h]
theorem getD_mid {a b : List Int} {x : Int} : (a ++ x :: b).getD a.length 0 = x := by
  rw [List.getD_eq_getElem?_getD, List.getElem?_append_right (Nat.le_refl _), Nat.sub_self]
  rfl
theorem ok_iff {w : Nat} {p : List Int} {x : Int} : okNext p (parO w p.length) x = true ↔ (1 ≤ p.length → p.getD ((p.length - 1) / w) 0 ≤ x) := by
  unfold parO okNext
  by_cases h : p.length = 0
  · rw [if_pos h]
    exact ⟨fun _ z => by omega, fun _ => rfl⟩
  · rw [if_neg h]
    show decide _ = true ↔ _
    rw [decide_eq_true_eq]
    exact ⟨fun a _ => a, fun a => a (by omega)⟩
theorem par_in {w c : Nat} (h : 1 ≤ c) : (c - 1) / w < c := Nat.lt_of_le_of_lt (Nat.div_le_self _ _) (by omega)
theorem heap_snoc {w : Nat} {p : List Int} {x : Int} (h : heapB w p = true) (o : okNext p (parO w p.length) x = true) : heapB w (p ++ [x]) = true := by
  rw [heapB_iff] at h ⊢
  rw [ok_iff] at o
  intro c h1 h2
  rw [List.length_append, List.length_singleton] at h2
  have hp := par_in (w := w) h1
  by_cases e : c = p.length
  · subst e
    rw [getD_left hp, getD_mid]
    exact o h1
  · rw [getD_left (by omega), getD_left (by omega)]
    exact h c h1 (by omega)
theorem heap_not {w : Nat} {p s : List Int} {x : Int} (o : ¬ okNext p (parO w p.length) x = true) : heapB w (p ++ x :: s) = false := by
  cases hb : heapB w (p ++ x :: s) with
  | false => rfl
  | true =>
    refine absurd (ok_iff.mpr fun h1 => ?_) o
    have := heapB_iff.mp hb p.length h1 (by rw [List.length_append, List.length_cons]; omega)
    rw [getD_left (par_in h1), getD_mid] at this
    exact this
theorem flat_filter {α β : Type} (b : α → Bool) (f : α → List β) : ∀ l : List α, (l.filter b).flatMap f = l.flatMap fun x => if b x = true then f x else []
  | [] => rfl
  | a :: l => by
    by_cases h : b a = true
    · rw [List.filter_cons_of_pos h, List.flatMap_cons, List.flatMap_cons, if_pos h, flat_filter b f l]
    · rw [List.filter_cons_of_neg h, List.flatMap_cons, if_neg h, flat_filter b f l]
      rfl
theorem dfs_perms {w : Nat} : ∀ (m : Nat) (p l : List Int), heapB w p = true → (((permsL m l).map fun s => p ++ s).filter (heapB w)) = dfsL w m p l
  | 0, p, l, h => by
    show ([p ++ []] : List (List Int)).filter (heapB w) = [p]
    rw [List.append_nil, List.filter_cons_of_pos h]
    rfl
  | m + 1, p, l, h => by
    unfold permsL dfsL
    rw [flat_filter, List.map_flatMap, List.filter_flatMap]
    refine flat_congr _ fun x _ => ?_
    rw [List.map_map]
    by_cases o : okNext p (parO w p.length) x = true
    · rw [if_pos o, ← dfs_perms m (p ++ [x]) (l.erase x) (heap_snoc h o)]
      refine congrArg (List.filter (heapB w)) (List.map_congr_left fun s _ => ?_)
      show p ++ (x :: s) = (p ++ [x]) ++ s
      rw [List.append_assoc]
      rfl
    · rw [if_neg o, List.filter_eq_nil_iff]
      intro r hr
      obtain ⟨s, _, rfl⟩ := List.mem_map.mp hr
      rw [show ((fun s => p ++ s) ∘ fun s => x :: s) s = p ++ x :: s from rfl, heap_not o]
      exact Bool.false_ne_true
/-- extending keys by keys gives the heaps among all orders, in their order -/
theorem allH_perms (ks : List Int) (w : Nat) : allH ks w = (permsL ks.length ks).filter (heapB w) := by
  rw [bfs_dfs ks.length 0 (Nat.zero_add _)]
  show ([[]] : List (List Int)).flatMap _ = _
  rw [List.flatMap_cons, List.flatMap_nil, List.append_nil, ← dfs_perms ks.length [] (leftL ks []) rfl]
  refine congrArg (List.filter (heapB w)) ?_
  show (permsL ks.length ks).map (fun s => [] ++ s) = _
  simp

/-- tuples of keys as data -/
abbrev rowD (r : List Int) : PyData := .tuple (r.map .int)
theorem rowD_dp {H : Hp} {v : V} {r : List Int} (h : RowAt H v r) : Dp K H v (rowD r) := by
  obtain ⟨t, rfl, e⟩ := h
  exact ints_tup K e
theorem rowsD_dp {H : Hp} : ∀ {xs : List V} {ls : List (List Int)}, RowsAt H xs ls → DpAll K H xs (ls.map rowD)
  | _, _, .nil => .nil
  | _, _, .cons a b => .cons (rowD_dp a) (rowsD_dp b)
theorem rowD_eqv (r q : List Int) : PyData.eqv (rowD r) (rowD q) = decide (r = q) := by
  rw [← ints_all]
  simp [PyData.eqv]
theorem rowsD_lay : ∀ ls : List (List Int), PyData.canLayAll0 (ls.map rowD) = true
  | [] => rfl
  | r :: ls => by
    have h := SeqAt.canLay_of_shaped (ints_shT r)
    rw [List.map_cons, PyData.canLayAll0, rowsD_lay ls, Bool.and_true]
    exact h
theorem rowsD_deep : ∀ ls : List (List Int), PyData.depthAll (ls.map rowD) ≤ 3
  | [] => by simp [PyData.depthAll]
  | r :: ls => by
    have := rowsD_deep ls
    have hp : PyData.depth (rowD r) ≤ 3 := by simp [rowD, PyData.depth, PySem.W.depth_ints]
    simp only [List.map_cons, PyData.depthAll]
    omega
theorem rowsD_shaped (ls : List (List Int)) : SeqAt.shaped (.list (ls.map rowD)) = true := by
  have := rowsD_deep ls
  unfold SeqAt.shaped
  rw [Bool.and_eq_true]
  refine ⟨?_, decide_eq_true ?_⟩
  · simp only [PyData.canLay0]
    exact rowsD_lay ls
  · simp only [PyData.depth]
    omega
theorem rowsD_all : ∀ ls ms : List (List Int), PyData.eqvAll (ls.map rowD) (ms.map rowD) = decide (ls = ms)
  | [], [] => by simp [PyData.eqvAll]
  | [], q :: qs => by simp [PyData.eqvAll]
  | p :: ps, [] => by simp [PyData.eqvAll]
  | p :: ps, q :: qs => by
    simp only [List.map_cons, PyData.eqvAll, rowsD_all ps qs]
    rw [rowD_eqv]
    by_cases h1 : p = q
    · by_cases h2 : ps = qs <;> simp [h1, h2]
    · simp [h1]
theorem rowsL_eqv (ls ms : List (List Int)) : PyData.eqv (.list (ls.map rowD)) (.list (ms.map rowD)) = decide (ls = ms) := by
  rw [← rowsD_all]
  simp [PyData.eqv]
end
end Tw

set_option Elab.async false
set_option linter.all false
set_option maxRecDepth 100000
set_option maxHeartbeats 2000000
namespace Tw
open PySem PySem.Spec PyProof.Rows L2
section
variable {P : Program} {w : World} {K : PySem.W.Frag} {mg : Str → Option Value} {base : Heap} {A : Ad}
/-! all orders: the first of equal keys leads -/
def firstB (s : List Int) (j : Nat) : Bool := decide (j = 0) || decide (s.getD (j - 1) 0 ≠ s.getD j 0)
theorem getD_at {s : List Int} {j : Nat} (h : j < s.length) : s.getD j 0 = s[j] := by
  rw [List.getD_eq_getElem?_getD, List.getElem?_eq_getElem h]
  rfl
theorem srt_le {s : List Int} (hs : s.Pairwise (· ≤ ·)) {i j : Nat} (h : i ≤ j) (hj : j < s.length) : s.getD i 0 ≤ s.getD j 0 := by
  rw [getD_at (by omega), getD_at hj]
  rcases Nat.lt_or_ge i j with c | c
  · exact List.pairwise_iff_getElem.mp hs i j (by omega) hj c
  · have : i = j := by omega
    subst this
    exact Int.le_refl _
theorem first_ex (s : List Int) : ∀ j, j < s.length → ∃ i, i < s.length ∧ firstB s i = true ∧ s.getD i 0 = s.getD j 0
  | 0, h => ⟨0, h, rfl, rfl⟩
  | j + 1, h => by
    by_cases e : s.getD j 0 = s.getD (j + 1) 0
    · obtain ⟨i, h1, h2, h3⟩ := first_ex s j (by omega)
      exact ⟨i, h1, h2, h3.trans e⟩
    · refine ⟨j + 1, h, ?_, rfl⟩
      unfold firstB
      rw [Nat.add_sub_cancel, decide_eq_true e, Bool.or_true]
theorem asc_first {s : List Int} (hs : s.Pairwise (· ≤ ·)) : ascL s = ((List.range s.length).filter (firstB s)).map fun j => s.getD j 0 := by
  refine asc_eq (ascL_asc s) ?_ fun x => ?_
  · rw [List.pairwise_map]
    refine List.Pairwise.imp_of_mem (fun {i j} hi hj h => ?_) (List.Pairwise.filter _ List.pairwise_lt_range)
    have hj2 := List.mem_range.mp (List.mem_filter.mp hj).1
    have f := (List.mem_filter.mp hj).2
    unfold firstB at f
    rw [Bool.or_eq_true, decide_eq_true_eq, decide_eq_true_eq] at f
    have a := srt_le hs (show i ≤ j - 1 by omega) (by omega)
    have b := srt_le hs (show j - 1 ≤ j by omega) hj2
    rcases f with e | e <;> omega
  · rw [ascL_mem, List.mem_map]
    refine ⟨fun h => ?_, fun ⟨j, h1, h2⟩ => ?_⟩
    · obtain ⟨j, hj, e⟩ := List.getElem_of_mem h
      obtain ⟨i, h1, h2, h3⟩ := first_ex s j hj
      exact ⟨i, List.mem_filter.mpr ⟨List.mem_range.mpr h1, h2⟩, by rw [h3, getD_at hj, e]⟩
    · have hj := List.mem_range.mp (List.mem_filter.mp h1).1
      rw [← h2, getD_at hj]
      exact List.getElem_mem hj
theorem at_perm : ∀ (s : List Int) (j : Nat) (h : j < s.length), (s[j] :: s.eraseIdx j).Perm s
  | a :: l, 0, _ => List.Perm.refl _
  | a :: l, j + 1, h => (List.Perm.swap a _ _).trans ((at_perm l j (Nat.lt_of_succ_lt_succ h)).cons a)
def ordL (s : List Int) (i : Nat) : List (List Int) := ((List.range i).filter (firstB s)).flatMap fun j => (permsL (s.length - 1) (s.eraseIdx j)).map fun r => s.getD j 0 :: r
theorem ord_end {s : List Int} (hs : s.Pairwise (· ≤ ·)) (hn : s ≠ []) : ordL s s.length = permsL s.length s := by
  have hl := List.length_pos_iff.mpr hn
  obtain ⟨m, hm⟩ : ∃ m, s.length = m + 1 := ⟨s.length - 1, by omega⟩
  unfold ordL
  rw [hm, Nat.add_sub_cancel]
  show _ = (ascL s).flatMap fun x => (permsL m (s.erase x)).map fun r => x :: r
  rw [asc_first hs, List.flatMap_map, hm]
  refine flat_congr _ fun j hj => ?_
  have hj2 : j < s.length := by
    rw [hm]
    exact List.mem_range.mp (List.mem_filter.mp hj).1
  rw [getD_at hj2]
  refine congrArg (List.map _) (permsL_perm m ?_)
  have h1 : (s[j] :: s.eraseIdx j).Perm s := at_perm s j hj2
  have h2 : s.Perm (s[j] :: s.erase s[j]) := List.perm_cons_erase (List.getElem_mem hj2)
  exact (List.perm_cons _).mp (h1.trans h2)
theorem ord_succ (s : List Int) (i : Nat) : ordL s (i + 1) = ordL s i ++ (if firstB s i = true then (permsL (s.length - 1) (s.eraseIdx i)).map fun r => s.getD i 0 :: r else []) := by
  unfold ordL
  rw [List.range_succ, List.filter_append, List.flatMap_append]
  by_cases h : firstB s i = true
  · rw [if_pos h, List.filter_cons_of_pos h]
    simp
  · rw [if_neg h, List.filter_cons_of_neg h]
    simp
theorem perms_len : ∀ (n : Nat) (l : List Int), l.length ≤ 6 → (permsL n l).length ≤ 6 ^ n
  | 0, _, _ => Nat.le_refl _
  | n + 1, l, h => by
    unfold permsL
    have hf := flat_len (fun x => (permsL n (l.erase x)).map fun s => x :: s) (6 ^ n) (ascL l) fun x hx => by
      rw [List.length_map]
      refine perms_len n _ ?_
      have := List.length_erase_le (a := x) (l := l)
      omega
    have h2 := ascL_len l
    rw [Nat.pow_succ, Nat.mul_comm]
    exact Nat.le_trans hf (Nat.mul_le_mul_right _ (by omega))
theorem ord_len (s : List Int) (h : s.length ≤ 6) : ∀ i, i ≤ s.length → (ordL s i).length ≤ i * 7776
  | 0, _ => by simp [ordL]
  | i + 1, hi => by
    have h1 := ord_len s h i (by omega)
    have h2 : (permsL (s.length - 1) (s.eraseIdx i)).length ≤ 7776 := by
      refine Nat.le_trans (perms_len _ _ (by rw [List.length_eraseIdx]; split <;> omega)) ?_
      have : ∀ k, k < 6 → 6 ^ k ≤ 7776 := by decide
      exact this _ (by omega)
    rw [ord_succ, List.length_append]
    by_cases c : firstB s i = true
    · rw [if_pos c, List.length_map]
      omega
    · rw [if_neg c]
      have : ([] : List (List Int)).length = 0 := rfl
      omega
theorem heap_faults (r : List Int) (w : Nat) : heapB w r = decide (faultL r w = []) := by
  have e : ∀ p, (decide (p = 0) || decide (r.getD ((p - 1) / w) 0 ≤ r.getD p 0)) = !faultB r w p := fun p => by
    unfold faultB
    by_cases h : p = 0
    · subst h
      simp
    · rw [decide_eq_false h, Bool.false_or, decide_eq_true (show 0 < p by omega), Bool.true_and]
      by_cases c : r.getD p 0 < r.getD ((p - 1) / w) 0
      · rw [decide_eq_true c, decide_eq_false (by omega)]
        rfl
      · rw [decide_eq_false c, decide_eq_true (by omega)]
        rfl
  unfold heapB faultL
  by_cases h : (List.range r.length).filter (faultB r w) = []
  · rw [decide_eq_true h, List.all_eq_true]
    intro p hp
    rw [e]
    rw [List.filter_eq_nil_iff] at h
    have := h p hp
    simpa using this
  · rw [decide_eq_false h]
    cases c : (List.range r.length).all fun c => decide (c = 0) || decide (r.getD ((c - 1) / w) 0 ≤ r.getD c 0) with
    | false => rfl
    | true =>
      exfalso
      refine h (List.filter_eq_nil_iff.mpr fun p hp z => ?_)
      have := List.all_eq_true.mp c p hp
      rw [e, z] at this
      cases this

end
end Tw

set_option Elab.async false
set_option linter.all false
set_option maxRecDepth 100000
set_option maxHeartbeats 2000000
namespace Tw
open PySem PySem.Spec PyProof.Rows L2
section
variable {P : Program} {w : World} {K : PySem.W.Frag} {mg : Str → Option Value} {base : Heap} {A : Ad}
/-! the law's orders -/
def spLL (n : Nat) : Sp := fun vs H Q _ => ∃ (k : Nat) (ks : List Int), vs = [.ref k] ∧ H k = some (.lst (ks.map V.int)) ∧ ks.length < n ∧ ks.length ≤ 6 ∧
  ∀ (H' : Hp) (q : Addr) (xs : List V), Same H H' → H q = none → H' q = some (.lst xs) → RowsAt H' xs (permsL ks.length ks) → Q (.ref q) H'
theorem perms_el : ∀ (n : Nat) (l r : List Int), r ∈ permsL n l → r.length = n
  | 0, _, r, h => by
    rw [List.mem_singleton.mp h]
    rfl
  | n + 1, l, r, h => by
    obtain ⟨x, _, h2⟩ := List.mem_flatMap.mp h
    obtain ⟨t, h3, rfl⟩ := List.mem_map.mp h2
    rw [List.length_cons, perms_el n _ t h3]
theorem era_map : ∀ (l : List Int) (i : Nat), (l.map V.int).eraseIdx i = (l.eraseIdx i).map V.int
  | [], _ => rfl
  | _ :: _, 0 => rfl
  | a :: l, i + 1 => by
    rw [List.map_cons, List.eraseIdx_cons_succ, List.eraseIdx_cons_succ, List.map_cons, era_map l i]
theorem RowsAt.app {H : Hp} : ∀ {xs ys : List V} {ls ms : List (List Int)}, RowsAt H xs ls → RowsAt H ys ms → RowsAt H (xs ++ ys) (ls ++ ms)
  | _, _, _, _, .nil, h => h
  | _, _, _, _, .cons a b, h => .cons a (RowsAt.app b h)
theorem lc_go {n : Nat} {H : Hp} {k q1 r : Addr} {i x : Int} {xs : List V} {ls : List (List Int)} {l : List Int} {Q : VK} (hq : H q1 = some (.lst xs)) (hr : RowsAt H xs ls) (hl : H r = some (.lst (l.map V.int))) (hn : l.length < n) (h6 : l.length ≤ 5) (hls : ls.length ≤ 60000)
    (q : ∀ (H' : Hp) (q2 : Addr) (ys : List V), Same H H' → H q2 = none → H' q2 = some (.lst ys) → RowsAt H' ys (ls ++ (permsL l.length l).map fun z => x :: z) → Q (.ref q2) H') :
    tOp rCat (tVar 1) (tLc (iList K (tCall (spLL n) [] E0 (tCons (tVar 4) tNil))) (gName 5) tYes (tOp (rCatA K) (tTup (tCons (tVar 3) tNil)) (tVar 5)) [5]) [some (.ref k), some (.ref q1), some (.int i), some (.int x), some (.ref r), none] H Q := by
  have hp : (permsL l.length l).length ≤ 7776 := by
    refine Nat.le_trans (perms_len _ _ (by omega)) ?_
    have : ∀ k, k < 6 → 6 ^ k ≤ 7776 := by decide
    exact this _ (by omega)
  refine ⟨_, rfl, _, rfl, r, l, rfl, hl, hn, by omega, fun H1 p ys s1 np ep rp => ?_⟩
  refine ⟨p, rfl, ⟨_, SqL.of ep⟩, fun D nD => ?_⟩
  have hyl : ys.length = (permsL l.length l).length := Paired.length rp
  refine lc_it (walk_list (xs := ys)) (fun j H' => AccR H1 D (((permsL l.length l).take j).map fun z => x :: z) H') (AccR.start nD) (fun j H' _ ac => SqL.of (ac.s _ _ ep)) ?_ ?_
  · rintro j y H2o H2 hj ac ⟨rfl, hy⟩
    obtain ⟨hj2, t, rfl, et⟩ := rp.get hy
    have et2 := ac.s _ _ et
    refine ⟨rfl, iteT (B := AccR H1 D (((permsL l.length l).take (j + 1)).map fun z => x :: z) H2) ?_⟩
    refine ⟨_, rfl, by show 1 ≤ sizeLine; decide, fun u nu => ?_⟩
    have su := Same.up (o := .tup [V.int x]) nu
    have fin : ∀ (c : Addr) (G : Hp), Same H2 G → G c = some (.tup ((x :: (permsL l.length l)[j]).map V.int)) → ∃ acc, G D = some (.lst acc) ∧ acc.length < sizeLine ∧ AccR H1 D (((permsL l.length l).take (j + 1)).map fun z => x :: z) (upd G D (.lst (acc ++ [V.ref c]))) := fun c G s ec => by
      have h := (ac.same s).push (x := .ref c) (l := x :: (permsL l.length l)[j]) ⟨c, rfl, ec⟩ (by rw [List.length_map, List.length_take, sizeLine_eq]; omega)
      rw [← List.take_append_getElem hj2, List.map_append]
      exact h
    have h6j : (permsL l.length l)[j].length ≤ 100 := by
      rw [perms_el _ _ _ (List.getElem_mem hj2)]
      omega
    refine ⟨_, rfl, u, t, _, _, rfl, rfl, SqT.of upd_same, SqT.of (su _ _ et2), Nat.le_of_lt (small1000 (by rw [List.length_map, List.length_singleton]; omega)), fun z => (nomatch z), fun _ z => ?_, fun _ _ c nc => ?_⟩
    · have e0 : (permsL l.length l)[j] = [] := List.map_eq_nil_iff.mp z
      refine fin u _ su ?_
      rw [e0]
      exact upd_same
    · exact fin c _ (su.trans (Same.up nc)) upd_same
  · intro H2 ac
    rw [hyl, List.take_length] at ac
    obtain ⟨zs, ez, rz⟩ := ac.a
    have s12 := s1.trans ac.s
    refine ⟨q1, D, xs, zs, rfl, rfl, s12 _ _ hq, ez, ?_, fun q2 n2 => q _ q2 (xs ++ zs) (s12.trans (Same.up n2)) (s12.free n2) upd_same (RowsAt.same ((hr.same s12).app rz) (Same.up n2))⟩
    have e1 : xs.length = ls.length := Paired.length hr
    have e2 : zs.length = _ := Paired.length rz
    rw [List.length_map] at e2
    rw [sizeLine_eq]
    omega
theorem b_ll (T : Tx K mg A) : L2.Binds K A.d__law_lists ["keys"] [] := T.F__law_lists.binds fun _ _ _ _ _ _ us hl => match us, hl with | [_], _ => rfl
theorem ok_ll (T : Tx K mg A) : ∀ n, FnOk P w K mg base CX0 (n + 1) A.f__law_lists A.d__law_lists ["keys"] (spLL n)
  | 0 => by
    refine T.F__law_lists.ok sc__law_lists (fun vs H Q E h => ?_) (fun cdv B outer s H vs Q E hr h => ?_)
    · obtain ⟨k, ks, rfl, _⟩ := h
      rfl
    · obtain ⟨k, ks, rfl, _, h, _⟩ := h
      exact absurd h (Nat.not_lt_zero _)
  | n + 1 => by
    have ih := ok_ll T n
    refine T.F__law_lists.ok sc__law_lists (fun vs H Q E h => ?_) (fun cdv B outer s H vs Q E hr h => ?_)
    · obtain ⟨k, ks, rfl, _⟩ := h
      rfl
    · obtain ⟨k, ks, rfl, hk, hlt, h6, q⟩ := h
      have nd := sc__law_lists.nd
      have hu : (B.deeper (envOfC "_law_lists" (defScope s__law_lists) s.heap.objs.size A.f__law_lists cdv)).units + 64 < cLine := by have := hr.un; omega
      refine ⟨_, (pss_cons (ps_if (pt_cmpR (op_eqD hu) (pv 0) (pe_lst pa_nil) (nomark _)) (pss_one (ps_ret (pe_lst (pa_cons (pe_tup pa_nil) pa_nil)))) pss_nil)
      (pss_cons (ps_set (i := 1) nd rfl (Or.inl rfl) (pe_lst pa_nil))
      (C8.pss_cut (ps_for PassesOwn.never rfl (pi_enum (by rfl) T.g_enumerate (pa_cons (pe_callB cr_sortedI (by rfl) T.g_sorted (by decide +kernel) (pa_cons (pv 0) pa_nil)) pa_nil)) (pg_tup rfl (pgs_cons (pg_name (i := 2) nd rfl (Or.inl rfl)) (pgs_cons (pg_name (i := 3) nd rfl (Or.inr rfl)) pgs_nil))) (pss_cons (ps_set (i := 4) nd rfl (Or.inl rfl) (pe_callB cr_sortedI (by rfl) T.g_sorted (by decide +kernel) (pa_cons (pv 0) pa_nil)))
      (pss_cons (ps_expr (pe_bm PySem.F.plainAttrs_list PySem.F.slot_list_pop PySem.F.type_list_pop mt_popAt (pv 4) (pa_cons (pv 2) pa_nil)))
      (pss_one (ps_if (PW.pt (pw_or (pt_cmpR op_eq (pv 2) pe_int (nomark _)) (pw_or1 (pt_cmpR op_ne (pe_ix ix_list (pe_callB cr_sortedI (by rfl) T.g_sorted (by decide +kernel) (pa_cons (pv 0) pa_nil)) (pe_op op_sub (pv 2) pe_int) (fun _ _ => rfl)) (pv 3) (nomark _))))) (pss_one (ps_set (i := 1) nd rfl (Or.inl rfl) (pe_op op_cat (pv 1) (pe_lc (own := [("row", 5)]) (g := gName 5) (tt := tYes) rfl nd (pi_list (pe_call ih hr (by rfl) T.m__law_lists T.F__law_lists.kp (b_ll T) .nil pass0 (pa_cons (pv 4) pa_nil))) (blkOk_by (own := [("row", 5)]) (N := ["keys", "found", "at", "key", "rest", "row"]) (sc := defScope s__law_lists) (by decide +kernel)) (fun _ _ _ _ _ => pg_name (i := 5) nd rfl (Or.inl rfl)) (fun _ _ _ _ _ => pts_nil) (fun _ _ _ _ _ => (pe_op (r := rCatA K) op_catA (pe_tup (pa_cons (pv 3) pa_nil)) (pv 5))))))) pss_nil)))))
      (pss_one (ps_ret (pv 1)))))), ?_⟩
      refine ⟨_, rfl, Nat.zero_le _, fun l0 nl0 => ?_⟩
      have s0 : Same H (upd H l0 (.lst [])) := Same.up nl0
      refine ⟨.list (ks.map .int), .list [], .lst (SqL.of (s0 _ _ hk)) (ints_dp _ _ _), .lst (SqL.of upd_same) .nil, shaped_ints _, rfl, _, rfl, ?_⟩
      rw [emp_eqv]
      by_cases hn : ks = []
      · rw [decide_eq_true hn]
        refine iteT ?_
        refine ⟨Nat.zero_le _, fun e ne => ⟨by show 1 ≤ sizeLine; decide, fun D nD => ?_⟩⟩
        have se := Same.up (o := .tup []) ne
        subst hn
        exact q _ D [.ref e] (s0.trans (se.trans (Same.up nD))) (s0.free (se.free nD)) upd_same (.cons ⟨e, rfl, (Same.up nD) _ _ upd_same⟩ .nil)
      · rw [decide_eq_false hn]
        refine iteF ?_
        refine ⟨Nat.zero_le _, fun D nD => ?_⟩
        have s1 : Same H (upd (upd H l0 (.lst [])) D (.lst [])) := s0.trans (Same.up nD)
        have hnD : H D = none := s0.free nD
        have eD : upd (upd H l0 (.lst [])) D (.lst []) D = some (.lst []) := upd_same
        revert s1 eD
        generalize upd (upd H l0 (.lst [])) D (.lst []) = H1
        intro s1 eD
        refine ⟨fun σ' H' => ∃ (x2 x3 x4 : Option V) (q1 : Addr) (xs : List V), σ' = [some (.ref k), some (.ref q1), x2, x3, x4, none] ∧ Same H H' ∧ H q1 = none ∧ H' q1 = some (.lst xs) ∧ RowsAt H' xs (permsL ks.length ks), ?_, ?_⟩
        · refine ⟨_, rfl, k, ks, rfl, SqL.of (s1 _ _ hk), fun s a perm srt na => ?_⟩
          have sa : Same H1 (upd H1 a (.lst (s.map V.int))) := Same.up na
          have hsl : s.length = ks.length := perm.length_eq
          refine ⟨a, _, rfl, SqL.of upd_same, ?_⟩
          refine for_it (walk_enum (xs := s.map V.int)) (fun i σ' H' => ∃ (x2 x3 x4 : Option V) (q1 : Addr) (xs : List V), σ' = [some (.ref k), some (.ref q1), x2, x3, x4, none] ∧ Same (upd H1 a (.lst (s.map V.int))) H' ∧ H q1 = none ∧ H' q1 = some (.lst xs) ∧ RowsAt H' xs (ordL s i))
            ⟨none, none, none, D, [], rfl, Same.refl _, hnD, sa _ _ eD, .nil⟩ (fun i σ' H' _ ⟨_, _, _, _, _, _, s, _⟩ => SqL.of (s _ _ upd_same)) ?_ ?_
          · rintro i v σ' H2 H3 hi ⟨x2, x3, x4, q1, xs, rfl, s2, nq1, eq1, r1⟩ ⟨T', x, y, rfl, nT, rfl, ex, ey⟩
            obtain ⟨hi', rfl⟩ := ints_at ey
            cases ex
            refine ⟨_, _, rfl, SqT.of upd_same, rfl, ?_⟩
            have s3 : Same H2 (upd H2 T' (.tup [.int (i : Nat), .int s[i]])) := Same.up nT
            have hkH : H2 k = some (.lst (ks.map V.int)) := s2 _ _ (sa _ _ (s1 _ _ hk))
            have e1 := s3 _ _ eq1
            have r3 := r1.same s3
            have hk3 := s3 _ _ hkH
            have s23 := s2.trans s3
            refine ⟨_, _, rfl, _, _, rfl, rfl, ?_⟩
            revert e1 r3 hk3 s23 
            generalize upd H2 T' (.tup [.int (i : Nat), .int s[i]]) = H3
            intro e1 r3 hk3 s23
            refine ⟨_, rfl, k, ks, rfl, SqL.of hk3, fun s' r perm' srt' nr => ?_⟩
            obtain rfl : s' = s := sorted_one (perm'.trans perm.symm) srt' srt
            refine ⟨_, rfl, .inl ⟨rfl, _, SqL.of upd_same⟩, _, rfl, r, _, _, i, V.int s'[i], rfl, rfl, upd_same, by omega, by omega, ?_, ?_, ?_⟩
            · unfold seqIndex?
              rw [List.length_map]
              simp
              omega
            · rw [List.getElem?_map, List.getElem?_eq_getElem hi']
              rfl
            have er : upd (upd H3 r (.lst (s'.map V.int))) r (.lst ((s'.map V.int).eraseIdx i)) r = some (.lst ((s'.eraseIdx i).map V.int)) := by
              rw [upd_same, era_map]
            have s5 : Same H3 (upd (upd H3 r (.lst (s'.map V.int))) r (.lst ((s'.map V.int).eraseIdx i))) := fun b o e => by
              rw [upd_ne (ne_of_none e nr), upd_ne (ne_of_none e nr)]
              exact e
            revert er s5
            generalize upd (upd H3 r (.lst (s'.map V.int))) r (.lst ((s'.map V.int).eraseIdx i)) = H5
            intro er s5
            have hel : (s'.eraseIdx i).length = s'.length - 1 := by
              rw [List.length_eraseIdx, if_pos hi']
            have hol := ord_len s' (by omega) i (by omega)
            have go : ∀ {H6 : Hp} {Q : VK}, Same H5 H6 → firstB s' i = true → (∀ (H' : Hp) (q2 : Addr) (ys : List V), Same H6 H' → H6 q2 = none → H' q2 = some (.lst ys) → RowsAt H' ys (ordL s' (i + 1)) → Q (.ref q2) H') →
                tOp rCat (tVar 1) (tLc (iList K (tCall (spLL n) [] E0 (tCons (tVar 4) tNil))) (gName 5) tYes (tOp (rCatA K) (tTup (tCons (tVar 3) tNil)) (tVar 5)) [5]) [some (.ref k), some (.ref q1), some (.int (i : Nat)), some (.int s'[i]), some (.ref r), none] H6 Q := fun {H6 Q} s6 hf q6 => by
              refine lc_go (s6 _ _ (s5 _ _ e1)) (RowsAt.same (r3.same s5) s6) (s6 _ _ er) (by rw [hel]; omega) (by rw [hel]; omega) (by omega) fun H' q2 ys sx nx ex rx => q6 H' q2 ys sx nx ex ?_
              rw [ord_succ, if_pos hf, ← hel, getD_at hi']
              exact rx
            have s25 := s23.trans s5
            by_cases h0 : i = 0
            · refine ⟨_, rfl, rfl, _, rfl, ?_⟩
              rw [show decide (V.int (i : Nat) = V.int 0) = true from decide_eq_true (by rw [h0]; rfl)]
              refine iteT (iteT (go (Same.refl _) (by unfold firstB; rw [decide_eq_true h0, Bool.true_or]) fun H' q2 ys sx nx ex rx => ?_))
              exact ⟨_, _, _, q2, ys, rfl, s25.trans sx, (s1.trans (sa.trans s25)).free nx, ex, rx⟩
            · refine ⟨_, rfl, rfl, _, rfl, ?_⟩
              rw [show decide (V.int (i : Nat) = V.int 0) = false from decide_eq_false (fun z => h0 (by injection z with z; omega))]
              refine iteF ?_
              refine ⟨_, rfl, k, ks, rfl, SqL.of (s5 _ _ hk3), fun s2' r2 perm2 srt2 nr2 => ?_⟩
              obtain rfl : s2' = s' := sorted_one (perm2.trans perm.symm) srt2 srt
              have s6 : Same H5 (upd H5 r2 (.lst (s2'.map V.int))) := Same.up nr2
              have ev : atI (s2'.map V.int) ((i : Int) - 1) = some (V.int (s2'.getD (i - 1) 0)) := by
                rw [show (i : Int) - 1 = ((i - 1 : Nat) : Int) by omega]
                exact atI_nat (by rw [List.getElem?_map, List.getElem?_eq_getElem (show i - 1 < s2'.length by omega), getD_at (by omega)]; rfl)
              refine ⟨_, rfl, _, _, rfl, rfl, r2, _, _, _, rfl, rfl, SqL.of upd_same, ev, _, rfl, rfl, _, rfl, ?_⟩
              by_cases hf : s2'.getD (i - 1) 0 = s2'[i]
              · rw [show (!decide (V.int (s2'.getD (i - 1) 0) = V.int s2'[i])) = false by rw [hf, decide_eq_true rfl]; rfl]
                refine iteF ⟨_, _, _, q1, xs, rfl, s25.trans s6, nq1, s6 _ _ (s5 _ _ e1), ?_⟩
                have nf : ¬ firstB s2' i = true := by
                  unfold firstB
                  rw [decide_eq_false h0, Bool.false_or, decide_eq_true_eq, getD_at hi', hf]
                  exact fun z => z rfl
                rw [ord_succ, if_neg nf, List.append_nil]
                exact RowsAt.same (r3.same s5) s6
              · rw [show (!decide (V.int (s2'.getD (i - 1) 0) = V.int s2'[i])) = true by rw [decide_eq_false (fun z => hf (by injection z))]; rfl]
                have hy : firstB s2' i = true := by
                  unfold firstB
                  rw [getD_at hi', decide_eq_true hf, Bool.or_true]
                refine iteT (go s6 hy fun H' q2 ys sx nx ex rx => ?_)
                exact ⟨_, _, _, q2, ys, rfl, (s25.trans s6).trans sx, (s1.trans (sa.trans (s25.trans s6))).free nx, ex, rx⟩
          · rintro σ' H2 ⟨x2, x3, x4, q1, xs, rfl, s2, nq1, eq1, r1⟩
            have hs0 : s ≠ [] := fun z => hn (List.length_eq_zero_iff.mp (by rw [← hsl, z]; rfl))
            rw [List.length_map, ord_end srt hs0, hsl, permsL_perm _ perm] at r1
            exact ⟨x2, x3, x4, q1, xs, rfl, s1.trans (sa.trans s2), nq1, eq1, r1⟩
        · rintro σ' H2 ⟨x2, x3, x4, q1, xs, rfl, s2, nq1, eq1, r1⟩
          exact ⟨_, rfl, q H2 q1 xs s2 nq1 eq1 r1⟩

end
end Tw

set_option Elab.async false
set_option linter.all false
set_option maxRecDepth 100000
set_option maxHeartbeats 2000000
namespace Tw
open PySem PySem.Spec PyProof.Rows L2
section
variable {P : Program} {w : World} {K : PySem.W.Frag} {mg : Str → Option Value} {base : Heap} {A : Ad}
theorem perms_mem : ∀ (n : Nat) (l r : List Int), r ∈ permsL n l → ∀ x ∈ r, x ∈ l
  | 0, _, r, h => fun x hx => by
    rw [List.mem_singleton.mp h] at hx
    cases hx
  | n + 1, l, r, h => fun y hy => by
    obtain ⟨x, hx, h2⟩ := List.mem_flatMap.mp h
    obtain ⟨t, h3, rfl⟩ := List.mem_map.mp h2
    rcases List.mem_cons.mp hy with e | e
    · rw [e]
      exact ascL_mem.mp hx
    · exact List.mem_of_mem_erase (perms_mem n _ t h3 y e)
def spLHs : Sp := fun vs H Q _ => ∃ (k w : Nat) (ks : List Int), vs = [.ref k, .int w] ∧ (1 ≤ w ∧ w ≤ 4) ∧ H k = some (.lst (ks.map V.int)) ∧ ks.length ≤ 6 ∧ (∀ n ∈ ks, -1000000000 ≤ n ∧ n ≤ 1000000000) ∧
  ∀ (H' : Hp) (q : Addr) (xs : List V), Same H H' → H q = none → H' q = some (.lst xs) → RowsAt H' xs (allH ks w) → Q (.ref q) H'
theorem ok_lhs (T : Tx K mg A) : FnOk P w K mg base CX0 10 A.f__law_heaps A.d__law_heaps ["keys", "wide"] spLHs := by
  refine T.F__law_heaps.ok sc__law_heaps (fun vs H Q E h => ?_) (fun cdv B outer s H vs Q E hr h => ?_)
  · obtain ⟨k, w, ks, rfl, _⟩ := h
    rfl
  · obtain ⟨k, w, ks, rfl, hw, hk, h6, hb, q⟩ := h
    have nd := sc__law_heaps.nd
    refine ⟨_, (pss_one (ps_ret (pe_lc (own := [("row", 2)]) (g := gName 2) rfl nd (pi_list (pe_call (ok_ll T 7) (hr.mono (by decide)) (by rfl) T.m__law_lists T.F__law_lists.kp (b_ll T) .nil pass0 (pa_cons (pv 0) pa_nil))) (blkOk_by (own := [("row", 2)]) (N := ["keys", "wide", "row"]) (sc := defScope s__law_heaps) (by decide +kernel)) (fun _ _ _ _ _ => pg_name (i := 2) nd rfl (Or.inl rfl)) (fun _ _ _ _ _ => pts_one (pt_val (pe_call (ok_lis T) (hr.mono (by decide)) (by rfl) T.m__law_is_heap T.F__law_is_heap.kp (b_lis T) .nil pass0 (pa_cons (pv 2) (pa_cons (pv 1) pa_nil))))) (fun _ _ _ _ _ => pv 2)))), ?_⟩
    refine ⟨_, rfl, k, ks, rfl, hk, by omega, h6, fun H1 p ys s1 np ep rp => ?_⟩
    refine ⟨p, rfl, ⟨_, SqL.of ep⟩, fun D nD => ?_⟩
    have hyl : ys.length = (permsL ks.length ks).length := Paired.length rp
    have hp : (permsL ks.length ks).length ≤ 46656 := by
      refine Nat.le_trans (perms_len _ _ h6) ?_
      have : ∀ k, k < 7 → 6 ^ k ≤ 46656 := by decide
      exact this _ (by omega)
    refine lc_it (walk_list (xs := ys)) (fun j H' => AccR H1 D (((permsL ks.length ks).take j).filter fun r => lheap r w) H') (AccR.start nD) (fun j H' _ ac => SqL.of (ac.s _ _ ep)) ?_ ?_
    · rintro j y H2o H2 hj ac ⟨rfl, hy⟩
      obtain ⟨hj2, t, rfl, et⟩ := rp.get hy
      have et2 := ac.s _ _ et
      have hmem := List.getElem_mem hj2
      have hel := perms_el _ _ _ hmem
      refine ⟨rfl, _, rfl, _, rfl, t, w, _, rfl, hw, ⟨.inr et2, by omega, fun x hx => hb x (perms_mem _ _ _ hmem x hx)⟩, fun H3 s3 => ?_⟩
      refine ⟨_, rfl, ?_⟩
      rw [← List.take_append_getElem hj2, List.filter_append]
      have ac3 := ac.same s3
      have hln : (((permsL ks.length ks).take j).filter fun r => lheap r w).length ≤ 46656 := Nat.le_trans (List.length_filter_le _ _) (by rw [List.length_take]; omega)
      by_cases hh : lheap (permsL ks.length ks)[j] w = true
      · rw [hh]
        refine iteT ⟨_, rfl, ?_⟩
        rw [List.filter_cons_of_pos (p := fun r => lheap r w) hh, List.filter_nil]
        exact ac3.push ⟨t, rfl, s3 _ _ et2⟩ (by rw [sizeLine_eq]; omega)
      · rw [Bool.not_eq_true] at hh
        rw [hh]
        refine iteF ?_
        rw [List.filter_cons_of_neg (p := fun r => lheap r w) (by rw [hh]; exact Bool.false_ne_true), List.filter_nil, List.append_nil]
        exact ac3
    · intro H2 ac
      rw [hyl, List.take_length] at ac
      obtain ⟨zs, ez, rz⟩ := ac.a
      have e : (permsL ks.length ks).filter (fun r => lheap r w) = allH ks w := by
        rw [allH_perms]
        refine List.filter_congr fun r hr2 => ?_
        rw [heap_faults, lheap_fault r w hw (by rw [perms_el _ _ _ hr2]; omega)]
      rw [e] at rz
      exact q _ D zs (s1.trans ac.s) (s1.free nD) ez rz
theorem b_lhs (T : Tx K mg A) : L2.Binds K A.d__law_heaps ["keys", "wide"] [] := T.F__law_heaps.binds fun _ _ _ _ _ _ us hl => match us, hl with | [_, _], _ => rfl
def rgI (n : Nat) : List Int := (List.range n).map fun i => ((i : Nat) : Int)
theorem rgI_pl (n : Nat) : pl n = (rgI n).map V.int := by
  unfold pl rgI
  rw [List.map_map]
  rfl
theorem rgI_len (n : Nat) : (rgI n).length = n := by
  unfold rgI
  rw [List.length_map, List.length_range]
theorem rgI_mem {n : Nat} {x : Int} (h : x ∈ rgI n) : 0 ≤ x ∧ x < n := by
  unfold rgI at h
  obtain ⟨i, hi, rfl⟩ := List.mem_map.mp h
  have := List.mem_range.mp hi
  omega
def spLW : Sp := fun vs H Q _ => ∃ (w n : Nat), vs = [.int w, .int n] ∧ (1 ≤ w ∧ w ≤ 4) ∧ n ≤ 6 ∧
  ∀ (H' : Hp) (q : Addr) (xs : List V), Same H H' → H q = none → H' q = some (.lst xs) → RowsAt H' xs (allH (rgI n) w) → Q (.ref q) H'
theorem ok_lw (T : Tx K mg A) : FnOk P w K mg base CX0 11 A.f__law_ways_to A.d__law_ways_to ["wide", "many"] spLW := by
  refine T.F__law_ways_to.ok sc__law_ways_to (fun vs H Q E h => ?_) (fun cdv B outer s H vs Q E hr h => ?_)
  · obtain ⟨w, n, rfl, _⟩ := h
    rfl
  · obtain ⟨w, n, rfl, hw, h6, q⟩ := h
    have nd := sc__law_ways_to.nd
    refine ⟨_, (pss_one (ps_ret (pe_call (ok_lhs T) hr (by rfl) T.m__law_heaps T.F__law_heaps.kp (b_lhs T) .nil pass0 (pa_cons (pe_listRg rfl (by rfl) T.g_list (prg_1 (by rfl) T.g_range (pv 1))) (pa_cons (pv 0) pa_nil))))), ?_⟩
    refine ⟨_, rfl, _, rfl, RgOk.of_le (by omega) (by omega) (by omega) (by omega), fun l nl => ?_⟩
    have el : upd H l (.lst (rgV 0 (n : Nat))) l = some (.lst ((rgI n).map V.int)) := by rw [upd_same, rg_pl, rgI_pl]
    exact ⟨_, rfl, l, w, rgI n, rfl, hw, el, by rw [rgI_len]; exact h6, fun x hx => by have := rgI_mem hx; omega, fun H' q1 xs s1 n1 e1 r1 => q H' q1 xs ((Same.up nl).trans s1) ((Same.up nl).free n1) e1 r1⟩
theorem b_lw (T : Tx K mg A) : L2.Binds K A.d__law_ways_to ["wide", "many"] [] := T.F__law_ways_to.binds fun _ _ _ _ _ _ us hl => match us, hl with | [_, _], _ => rfl
theorem perms_perm : ∀ (n : Nat) (l r : List Int), l.length = n → r ∈ permsL n l → r.Perm l
  | 0, l, r, h, hr => by
    rw [List.mem_singleton.mp hr, List.length_eq_zero_iff.mp h]
  | n + 1, l, r, h, hr => by
    obtain ⟨x, hx, h2⟩ := List.mem_flatMap.mp hr
    obtain ⟨t, h3, rfl⟩ := List.mem_map.mp h2
    have hm := ascL_mem.mp hx
    have := perms_perm n (l.erase x) t (by rw [List.length_erase_of_mem hm]; omega) h3
    exact (this.cons x).trans (List.perm_cons_erase hm).symm
theorem allH_mem {ks r : List Int} {w : Nat} (h : r ∈ allH ks w) : r.Perm ks ∧ faultL r w = [] := by
  rw [allH_perms] at h
  obtain ⟨h1, h2⟩ := List.mem_filter.mp h
  rw [heap_faults] at h2
  exact ⟨perms_perm _ _ _ rfl h1, of_decide_eq_true h2⟩
end
end Tw

set_option Elab.async false
set_option linter.all false
set_option maxRecDepth 100000
set_option maxHeartbeats 2000000
namespace Tw
open PySem PySem.Spec PyProof.Rows L2
section
variable {P : Program} {w : World} {K : PySem.W.Frag} {mg : Str → Option Value} {base : Heap} {A : Ad}
open LamX (ExtN Tabs TabS)
def tTruK (K : PySem.W.Frag) (ta : TE) : L2.TT := fun σ H Q => ta σ H fun x H' => ∃ k, TruV K x H' k ∧ Q k H'
theorem pt_truK {X : Cx} {K : PySem.W.Frag} {a : Expr} {ta : TE} (hK : X.K = K) (ha : PE X a ta) (he : ∀ whole, isTrue a X.env whole = (do let v ← whole; standAt a.pos; holding [v] (truthy v))) : PT X a (tTruK K ta) := by
  subst hK
  exact pt_truth ha he
abbrev lkL (w : Nat) (h : List Int) : List Int := [((takeR h w).2.2 : Nat), ((holeR h w).2.2 : Nat)]
theorem RowsAt.extN {H H' : Hp} {xs : List V} {ls : List (List Int)} (h : RowsAt H xs ls) (x : ExtN H H') : RowsAt H' xs ls := L2.Paired.mapP h fun _ _ ⟨t, e, z⟩ => ⟨t, e, x _ _ z (fun ps c => nomatch c)⟩
def spLk (A : Ad) : Sp := fun vs H Q _ => ∃ (r w : Nat) (ks : List Int), vs = [.ref r, .int w] ∧ (1 ≤ w ∧ w ≤ 4) ∧ RowIn H r ks ∧ faultL ks w = [] ∧ ks ≠ [] ∧ Tabs (TT A) H ∧
  ∀ (H' : Hp) (t : Addr), ExtN H H' → Tabs (TT A) H' → H' t = some (.tup ((lkL w ks).map V.int)) → Q (.ref t) H'
theorem ok_lk (T : Tx K mg A) (TB : LamX.TabB base mg A.c_least_child A.P_least_child) : FnOk P w K mg base CX0 11 A.f_looks_of A.d_looks_of ["row", "arms"] (spLk A) := by
  obtain ⟨mt, kt⟩ := kb_tk T
  obtain ⟨mh, kh⟩ := kb_th T
  refine T.F_looks_of.ok sc_looks_of (fun vs H Q E h => ?_) (fun cdv B outer s H vs Q E hr h => ?_)
  · obtain ⟨r, w, ks, rfl, _⟩ := h
    rfl
  · obtain ⟨r, w, ks, rfl, hw, hrow, hf, hne, hT, q⟩ := h
    have nd := sc_looks_of.nd
    refine ⟨_, PSs.nox (pss_cons (ps_set (i := 2) nd rfl (Or.inl rfl) (pe_call (ok_fh T) (hr.mono (by decide)) (by rfl) T.m_filled_heap_of T.F_filled_heap_of.kp (b_fh T) .nil pass0 (pa_cons (pv 0) (pa_cons (pv 1) pa_nil))))
      (pss_one (ps_ret (pe_tup (pa_cons (pe_fld (pe_ix ix_tup (pe_callN (ok_tk T TB) (hr.mono (by decide)) (by rfl) T.m_take T.F_take.kp kt pass0 (pa_cons (pv 2) pa_nil) (pk_cons (pv 1) pk_nil)) pe_int (fun _ _ => rfl)) rfl) (pa_cons (pe_fld (pe_ix ix_tup (pe_callN (ok_th T TB) (hr.mono (by decide)) (by rfl) T.m_take_by_hole T.F_take_by_hole.kp kh pass0 (pa_cons (pv 2) pa_nil) (pk_cons (pv 1) pk_nil)) pe_int (fun _ _ => rfl)) rfl) pa_nil)))))), ?_⟩
    refine ⟨_, rfl, _, rfl, r, w, ks, rfl, hw, hrow, hf, hne, fun H1 t s1 et => ?_⟩
    have hT1 := hT.ext s1
    refine ⟨_, rfl, _, rfl, rfl, rfl, t, w, ks, rfl, hw, ⟨.inr et, hrow.2⟩, hf, hne, hT1, fun H2 z x2 hT2 hz => ?_⟩
    obtain ⟨p, e1, dz, z1, z2, g1, g2, g3⟩ := hz
    refine ⟨z, _, _, _, rfl, rfl, SqT.of e1, rfl, p, A.CS, dz, _, _, rfl, g1, T.cTS, T.nLooks, zf_looks _ _ _, ?_⟩
    have et2 := x2 _ _ et (fun ps c => nomatch c)
    refine ⟨_, rfl, _, rfl, rfl, rfl, t, w, ks, rfl, hw, ⟨.inr et2, hrow.2⟩, hf, hne, hT2, fun H3 y x3 hT3 hy => ?_⟩
    obtain ⟨p2, f1, dy, y1, y2, k1, k2, k3⟩ := hy
    refine ⟨y, _, _, _, rfl, rfl, SqT.of f1, rfl, p2, A.CS, dy, _, _, rfl, k1, T.cTS, T.nLooks, zf_looks _ _ _, ?_⟩
    refine ⟨by show 2 ≤ sizeLine; decide, fun u nu => ?_⟩
    exact q _ u (((extN_of s1).trans x2).trans (x3.trans (extN_of (Same.up nu)))) (hT3.ext (Same.up nu)) upd_same
theorem klk (T : Tx K mg A) : ∃ mv : List Value, KBn K A.d_looks_of ["row", "arms"] 1 ["arms"] (fun us ws => us ++ (mv ++ ws)) (fun vs zs => vs ++ zs) := by
  obtain ⟨mv, h⟩ := T.F_looks_of.kbinds0 (ps := ["row", "arms"]) 1 ["arms"] [] (fun us mv ws => us ++ (mv ++ ws)) (by simp) (by simp) (fun r1 r2 r3 => r1.append (r2.append r3))
    (fun D doc pm an cdv ct us mv ws h1 h2 h3 => by
      match us, mv, ws, h1, h2, h3 with
      | [a], [], [c], _, _, _ => rfl)
  exact ⟨mv, h⟩
theorem bdlk (T : Tx K mg A) : ∃ ds, Vals [V.int 2] ds ∧ L2.Binds K A.d_looks_of ["row", "arms"] ds := by
  refine T.F_looks_of.binds0 1 (by simp) rfl (fun D doc pm an cdv ct us ks h1 h2 => ?_)
  match us, ks, h1, h2 with
  | [a], [c], _, _ => exact ⟨_, _, _, _, _, _, rfl, rfl, rfl⟩
def hsL (n w : Nat) : List (List Int) := (allH (rgI n) w).filter fun h => decide (h ≠ [])
theorem tabs_put {T : List (Addr × Str)} {H : Hp} {d : Addr} {xs zs : List V} (t : Tabs T H) (h : H d = some (.lst xs)) : Tabs T (upd H d (.lst zs)) := tabs_but t h But.put
def spLov (A : Ad) : Sp := fun vs H Q _ => ∃ (n w : Nat), vs = [.int n, .int w] ∧ n ≤ 6 ∧ (1 ≤ w ∧ w ≤ 4) ∧ Tabs (TT A) H ∧
  ∀ (H' : Hp) (t : Addr), ExtN H H' → Tabs (TT A) H' → H' t = some (.tup ([((hsL n w).map fun h => ((takeR h w).2.2 : Int)).sum, ((hsL n w).map fun h => ((holeR h w).2.2 : Int)).sum].map V.int)) → Q (.ref t) H'
theorem ok_lov (T : Tx K mg A) (TB : LamX.TabB base mg A.c_least_child A.P_least_child) : FnOk P w K mg base CX0 12 A.f_looks_over A.d_looks_over ["many", "arms"] (spLov A) := by
  obtain ⟨mi, ki⟩ := kb_init T
  obtain ⟨ma, kah⟩ := kb_ah T
  obtain ⟨ml, klk⟩ := klk T
  refine T.F_looks_over.ok sc_looks_over (fun vs H Q E h => ?_) (fun cdv B outer s H vs Q E hr h => ?_)
  · obtain ⟨n, w, rfl, _⟩ := h
    rfl
  · obtain ⟨n, w, rfl, hn, hw, hT, q⟩ := h
    have nd := sc_looks_over.nd
    obtain ⟨t8, hg⟩ := cst T.c_MOST_COUNTED
    have hrb : ∀ x ∈ rgI n, -1000000000 ≤ x ∧ x ≤ 1000000000 := fun x hx => by have := rgI_mem hx; omega
    refine ⟨_, PSs.nox (pss_cons (ps_set (i := 2) nd rfl (Or.inl rfl) (pe_callTy (call_listO T.D_t___iter__ (ok_iter T) (b_iter T) T.D_t___len__ (ok_len T) (b_len T) (hr.mono (by decide))) (by rfl) T.g_list (by decide +kernel) (pa_cons (pe_makeK T.mkC (ok_init T) (hr.mono (by decide)) (by rfl) T.mC ki pass0 (pa_cons (pv 0) pa_nil) (pk_cons (pv 1) pk_nil)) pa_nil)))
      (pss_cons (ps_expr (pe_call (ok_few T) (hr.mono (by decide)) (by rfl) T.m_check_few T.F_check_few.kp (b_few T) .nil pass0 (pa_cons (pv 2) (pa_cons (pe_glob (by rfl) hg (relI _ _)) pa_nil))))
      (C8.pss_cut (ps_setLc (i := 3) (own := [("heap", 4)]) (g := gName 4) rfl nd rfl rfl (sw_true rfl rfl rfl (by decide +kernel)) (pi_list (pe_callN (ok_ah T) (hr.mono (by decide)) (by rfl) T.m_all_heaps T.F_all_heaps.kp kah pass0 (pa_cons (pv 2) pa_nil) (pk_cons (pv 1) pk_nil))) (blkOk_by (own := [("heap", 4)]) (N := ["many", "arms", "places", "looks", "heap", "down", "_", "by_hole"]) (sc := (defScope s_looks_over)) (by decide +kernel)) (fun _ _ _ _ _ => pg_name (i := 4) nd rfl (Or.inl rfl)) (fun _ _ _ _ _ => pts_one (pt_truK (K := K) rfl (pv 4) (fun _ => rfl))) (fun _ _ _ _ _ => (pe_callN (ok_lk T TB) (hr.mono (by decide)) (by rfl) T.m_looks_of T.F_looks_of.kp klk pass0 (pa_cons (pv 4) pa_nil) (pk_cons (pv 1) pk_nil))))
      (pss_one (ps_ret (pe_tup (pa_cons (pe_callB (cr_sum rfl) (by rfl) T.g_sum (by decide +kernel) (pa_cons (pe_lc (own := [("down", 5), ("_", 6)]) (g := gTup K 2 (gCons (gName 5) (gCons (gName 6) gNil))) (tt := tYes) rfl nd (pi_list (pv 3)) (blkOk_by (own := [("down", 5), ("_", 6)]) (N := ["many", "arms", "places", "looks", "heap", "down", "_", "by_hole"]) (sc := (defScope s_looks_over)) (by decide +kernel)) (fun _ _ _ _ _ => pg_tup rfl (pgs_cons (pg_name (i := 5) nd rfl (Or.inl rfl)) (pgs_cons (pg_name (i := 6) nd rfl (Or.inl rfl)) pgs_nil))) (fun _ _ _ _ _ => pts_nil) (fun _ _ _ _ _ => (pv 5))) pa_nil)) (pa_cons (pe_callB (cr_sum rfl) (by rfl) T.g_sum (by decide +kernel) (pa_cons (pe_lc (own := [("_", 6), ("by_hole", 7)]) (g := gTup K 2 (gCons (gName 6) (gCons (gName 7) gNil))) (tt := tYes) rfl nd (pi_list (pv 3)) (blkOk_by (own := [("_", 6), ("by_hole", 7)]) (N := ["many", "arms", "places", "looks", "heap", "down", "_", "by_hole"]) (sc := (defScope s_looks_over)) (by decide +kernel)) (fun _ _ _ _ _ => pg_tup rfl (pgs_cons (pg_name (i := 6) nd rfl (Or.inl rfl)) (pgs_cons (pg_name (i := 7) nd rfl (Or.inl rfl)) pgs_nil))) (fun _ _ _ _ _ => pts_nil) (fun _ _ _ _ _ => (pv 7))) pa_nil)) pa_nil)))))))), ?_⟩
    refine ⟨_, rfl, _, rfl, rfl, rfl, fun x dx0 nx ndx nex => ⟨x, dx0, n, w, rfl, by omega, hw, upd_same, fun H1 k1 t1 => ⟨rfl, ?_⟩⟩⟩
    have s1 := new_same nx ndx k1
    obtain ⟨dx, l, h1, h2⟩ := id t1.ob
    refine ⟨x, dx, _, l, pl n, rfl, h1, tf_pl _ _ _, SqT.of h2, by rw [pl_len]; omega, ⟨x, n, w, rfl, t1, n, rfl, by omega, rfl⟩, fun m nm => ?_⟩
    have s2 := Same.up (o := .lst (pl n)) nm
    have e2 : upd H1 m (.lst (pl n)) m = some (.lst (pl n)) := upd_same
    have s12 := s1.trans s2
    generalize upd H1 m (.lst (pl n)) = G at s2 e2 s12
    refine ⟨_, rfl, m, 8, pl n, rfl, .inl e2, by rw [pl_len]; omega, ?_⟩
    have e3 : G m = some (.lst ((rgI n).map V.int)) := by rw [e2, rgI_pl]
    refine ⟨fun σ' H' => ∃ (q3 : Addr) (xs : List V), σ' = [some (.int n), some (.int w), some (.ref m), some (.ref q3), none, none, none, none] ∧ ExtN H H' ∧ Tabs (TT A) H' ∧ H' q3 = some (.lst xs) ∧ RowsAt H' xs ((hsL n w).map (lkL w)), ?_, ?_⟩
    · refine ⟨_, rfl, _, rfl, rfl, rfl, m, w, rgI n, rfl, hw, .inl e3, by rw [rgI_len]; omega, hrb, fun H4 p ys s4 n4 e4 r4 => ?_⟩
      refine ⟨p, rfl, ⟨_, SqL.of e4⟩, fun D nD => ?_⟩
      have hT4 := (hT.ext s12).ext s4
      have hyl : ys.length = (allH (rgI n) w).length := Paired.length r4
      have hal : (allH (rgI n) w).length ≤ 40320 := by
        have a := ext_len (ks := rgI n) (w := w) (by rw [rgI_len]; omega) (rgI n).length (Nat.le_refl _)
        have b := bnd_top (rgI n).length (by rw [rgI_len]; omega)
        show (extL (rgI n) w (rgI n).length).length ≤ _
        omega
      refine lc_it (walk_list (xs := ys)) (fun j H' => ExtN H4 H' ∧ Tabs (TT A) H' ∧ ∃ acc, H' D = some (.lst acc) ∧ RowsAt H' acc ((((allH (rgI n) w).take j).filter fun h => decide (h ≠ [])).map (lkL w))) ⟨extN_of (Same.up nD), hT4.ext (Same.up nD), [], upd_same, .nil⟩ (fun j H' _ h => SqL.of (h.1 _ _ e4 (fun ps c => nomatch c))) ?_ ?_
      · rintro j y H5o H5 hj ⟨x5, hT5, acc, eD, racc⟩ ⟨rfl, hy⟩
        obtain ⟨hj2, t, rfl, et⟩ := r4.get hy
        obtain ⟨gp, gf⟩ := allH_mem (List.getElem_mem hj2)
        have et5 := x5 _ _ et (fun ps c => nomatch c)
        have hacl : acc.length ≤ 40320 := by
          have a := Paired.length racc
          rw [List.length_map] at a
          have b := List.length_filter_le (fun h : List Int => decide (h ≠ [])) ((allH (rgI n) w).take j)
          rw [List.length_take] at b
          omega
        rw [← List.take_append_getElem hj2, List.filter_append, List.map_append]
        generalize (allH (rgI n) w)[j] = hh at et5 gp gf
        refine ⟨rfl, _, rfl, !(hh.map V.int).isEmpty, .inr (.inl ⟨_, SqT.of et5, rfl⟩), ?_⟩
        by_cases hz : hh = []
        · subst hz
          refine iteF ⟨x5, hT5, acc, eD, ?_⟩
          rw [List.filter_cons_of_neg (by simp), List.filter_nil, List.map_nil, List.append_nil]
          exact racc
        · rw [show (!(hh.map V.int).isEmpty) = true by cases hh with | nil => exact absurd rfl hz | cons _ _ => rfl]
          refine iteT ?_
          refine ⟨_, rfl, _, rfl, rfl, rfl, t, w, hh, rfl, hw, ⟨.inr et5, by rw [gp.length_eq, rgI_len]; omega, fun x hx => hrb x (gp.mem_iff.mp hx)⟩, gf, hz, hT5, fun H6 u x6 hT6 eu => ?_⟩
          have eD6 := x6 _ _ eD (fun ps c => nomatch c)
          refine ⟨acc, eD6, by rw [sizeLine_eq]; omega, fun b o e no => ?_, tabs_put hT6 eD6, _, upd_same, ?_⟩
          · rw [upd_ne (ne_of_none e nD)]
            exact (x5.trans x6) _ _ e no
          · rw [List.filter_cons_of_pos (by simpa using hz), List.filter_nil]
            exact RowsAt.put eD6 (RowsAt.push ⟨u, rfl, eu⟩ (racc.extN x6))
      · rintro H5 ⟨x5, hT5, acc, eD, racc⟩
        rw [hyl, List.take_length] at racc
        exact ⟨D, acc, rfl, (extN_of (s12.trans s4)).trans x5, hT5, eD, racc⟩
    rintro σ' H5 ⟨q3, xs, rfl, x5, hT5, e5, r5⟩
    have hxl : xs.length = (hsL n w).length := by
      have := Paired.length r5
      rw [List.length_map] at this
      exact this
    have hal : (hsL n w).length ≤ 40320 := by
      have a := ext_len (ks := rgI n) (w := w) (by rw [rgI_len]; omega) (rgI n).length (Nat.le_refl _)
      have b := bnd_top (rgI n).length (by rw [rgI_len]; omega)
      have c := List.length_filter_le (fun h : List Int => decide (h ≠ [])) (allH (rgI n) w)
      have d : (allH (rgI n) w).length = (extL (rgI n) w (rgI n).length).length := rfl
      show ((allH (rgI n) w).filter fun h => decide (h ≠ [])).length ≤ _
      omega
    refine ⟨_, rfl, q3, rfl, ⟨_, SqL.of e5⟩, fun D nD => ?_⟩
    refine lc_it (walk_list (xs := xs)) (fun j H' => Acc H5 D ((((hsL n w).take j).map fun h => ((takeR h w).2.2 : Int)).map V.int) H') (Acc.start nD) (fun j H' _ ac => SqL.of (ac.s _ _ e5)) ?_ ?_
    · rintro j y H6o H6 hj ac ⟨rfl, hy⟩
      obtain ⟨hj2, t, rfl, et⟩ := RowsAt.get r5 hy
      rw [List.length_map] at hj2
      rw [List.getElem_map] at et
      refine ⟨t, _, rfl, SqT.of (ac.s _ _ et), rfl, _, _, rfl, _, _, rfl, rfl, rfl, iteT (B := Acc H5 D ((((hsL n w).take (j + 1)).map fun h => ((takeR h w).2.2 : Int)).map V.int) H6) ?_⟩
      refine ⟨_, rfl, _, ac.a, by rw [List.length_map, List.length_map, List.length_take, sizeLine_eq]; omega, ?_⟩
      rw [← List.take_append_getElem hj2, List.map_append, List.map_append]
      exact ac.push
    · intro H6 ac
      rw [hxl, List.take_length] at ac
      refine ⟨D, (hsL n w).map fun h => ((takeR h w).2.2 : Int), rfl, SqL.of ac.a, ?_⟩
      have e6 := ac.s _ _ e5
      have r6 := RowsAt.same r5 ac.s
      refine ⟨_, rfl, q3, rfl, ⟨_, SqL.of e6⟩, fun D2 nD2 => ?_⟩
      refine lc_it (walk_list (xs := xs)) (fun j H' => Acc H6 D2 ((((hsL n w).take j).map fun h => ((holeR h w).2.2 : Int)).map V.int) H') (Acc.start nD2) (fun j H' _ ac2 => SqL.of (ac2.s _ _ e6)) ?_ ?_
      · rintro j y H7o H7 hj ac2 ⟨rfl, hy⟩
        obtain ⟨hj2, t, rfl, et⟩ := RowsAt.get r6 hy
        rw [List.length_map] at hj2
        rw [List.getElem_map] at et
        refine ⟨t, _, rfl, SqT.of (ac2.s _ _ et), rfl, _, _, rfl, _, _, rfl, rfl, rfl, iteT (B := Acc H6 D2 ((((hsL n w).take (j + 1)).map fun h => ((holeR h w).2.2 : Int)).map V.int) H7) ?_⟩
        refine ⟨_, rfl, _, ac2.a, by rw [List.length_map, List.length_map, List.length_take, sizeLine_eq]; omega, ?_⟩
        rw [← List.take_append_getElem hj2, List.map_append, List.map_append]
        exact ac2.push
      · intro H7 ac2
        rw [hxl, List.take_length] at ac2
        refine ⟨D2, (hsL n w).map fun h => ((holeR h w).2.2 : Int), rfl, SqL.of ac2.a, ?_⟩
        refine ⟨by show 2 ≤ sizeLine; decide, fun u nu => ?_⟩
        have sA := (ac.s.trans ac2.s).trans (Same.up (o := .tup [V.int ((hsL n w).map fun h => ((takeR h w).2.2 : Int)).sum, V.int ((hsL n w).map fun h => ((holeR h w).2.2 : Int)).sum]) nu)
        exact q _ u (x5.trans (extN_of sA)) (hT5.ext sA) upd_same
theorem klo (T : Tx K mg A) : ∃ mv : List Value, KBn K A.d_looks_over ["many", "arms"] 1 ["arms"] (fun us ws => us ++ (mv ++ ws)) (fun vs zs => vs ++ zs) := by
  obtain ⟨mv, h⟩ := T.F_looks_over.kbinds0 (ps := ["many", "arms"]) 1 ["arms"] [] (fun us mv ws => us ++ (mv ++ ws)) (by simp) (by simp) (fun r1 r2 r3 => r1.append (r2.append r3))
    (fun D doc pm an cdv ct us mv ws h1 h2 h3 => by
      match us, mv, ws, h1, h2, h3 with
      | [a], [], [c], _, _, _ => rfl)
  exact ⟨mv, h⟩
theorem blo (T : Tx K mg A) : ∃ ds, Vals [V.int 2] ds ∧ L2.Binds K A.d_looks_over ["many", "arms"] ds := by
  refine T.F_looks_over.binds0 1 (by simp) rfl (fun D doc pm an cdv ct us ks h1 h2 => ?_)
  match us, ks, h1, h2 with
  | [a], [c], _, _ => exact ⟨_, _, _, _, _, _, rfl, rfl, rfl⟩

end
end Tw

set_option Elab.async false
set_option linter.all false
set_option maxRecDepth 100000
set_option maxHeartbeats 2000000
namespace Tw
open PySem PySem.Spec PyProof.Rows L2
section
variable {P : Program} {w : World} {K : PySem.W.Frag} {mg : Str → Option Value} {base : Heap} {A : Ad}
open LamX (ExtN Tabs TabS)
/-! the law -/
def spLaw (K : PySem.W.Frag) (A : Ad) : Sp := fun vs H Q _ => ∃ (a : Addr) (ns : List Int), vs = [.ref a] ∧ SqL K H a (ns.map V.int) ∧ ns.length ≤ 63 ∧ Tabs (TT A) H ∧ ∀ H', Q (.bl true) H'
theorem hs_all {n w : Nat} (hn : 0 < n) : hsL n w = allH (rgI n) w := by
  unfold hsL
  rw [List.filter_eq_self]
  intro h hh
  obtain ⟨gp, _⟩ := allH_mem hh
  have := gp.length_eq
  rw [rgI_len] at this
  have hne : h ≠ [] := fun z => by rw [z] at this; simp at this; omega
  simpa using hne
theorem hs_zero (w : Nat) : hsL 0 w = [] := rfl
theorem ok_law (T : Tx K mg A) (TB : LamX.TabB base mg A.c_least_child A.P_least_child) : FnOk P w K mg base CX0 13 A.f_law A.d_law ["script"] (spLaw K A) := by
  obtain ⟨ml, klk⟩ := klk T
  obtain ⟨dlk, rlk, bdk⟩ := bdlk T
  obtain ⟨mo, klo⟩ := klo T
  obtain ⟨dlo, rlo, blo⟩ := blo T
  refine T.F_law.ok sc_law (fun vs H Q E h => ?_) (fun cdv B outer s H vs Q E hr h => ?_)
  · obtain ⟨a, ns, rfl, _⟩ := h
    rfl
  · obtain ⟨a, ns, rfl, ha, hl, hT, q⟩ := h
    have nd := sc_law.nd
    have hu : (B.deeper (envOfC "law" (defScope s_law) s.heap.objs.size A.f_law cdv)).units + 64 < cLine := by have := hr.un; omega
    refine ⟨_, PSs.nox (pss_cons (ps_set (i := 1) nd rfl (Or.inl rfl) (pe_lst (pa_cons (pv 0) (pa_cons pe_int pa_nil))))
      (C8.pss_cut (ps_for PassesOwn.never rfl (pi_range1 rfl T.g_range (pa_cons pe_int pa_nil)) (pg_name (i := 2) nd rfl (Or.inl rfl)) (C8.pss_cut (ps_set (i := 3) nd rfl (Or.inr rfl) (pe_call (ok_arm T) (hr.mono (by decide)) (by rfl) T.m__law_arms T.F__law_arms.kp (b_arm T) .nil pass0 (pa_cons (pv 1) pa_nil)))
      (C8.pss_cut (ps_set (i := 4) nd rfl (Or.inl rfl) (pe_call (ok_lh T) (hr.mono (by decide)) (by rfl) T.m__law_heap T.F__law_heap.kp (b_lh T) .nil pass0 (pa_cons (pe_op op_cat (pe_call (ok_keys T) (hr.mono (by decide)) (by rfl) T.m__law_keys T.F__law_keys.kp (b_keys T) .nil pass0 (pa_cons (pv 1) (pa_cons pe_int (pa_cons pe_int pa_nil)))) (pe_lst (pa_cons (pe_call (ok_take T) (hr.mono (by decide)) (by rfl) T.m__law_take T.F__law_take.kp (b_take T) .nil pass0 (pa_cons (pv 1) (pa_cons pe_int pa_nil))) pa_nil))) (pa_cons (pv 3) pa_nil))))
      (C8.pss_cut (ps_if (pt_cmpR (op_neD hu) (pe_callN (ok_lk T TB) (hr.mono (by decide)) (by rfl) T.m_looks_of T.F_looks_of.kp klk pass0 (pa_cons (pv 4) pa_nil) (pk_cons (pv 3) pk_nil)) (pe_tup (pa_cons (pe_ix (r := rIxT K) ix_tup (pe_call (ok_lout T) (hr.mono (by decide)) (by rfl) T.m__law_out T.F__law_out.kp (b_lout T) .nil pass0 (pa_cons (pv 4) (pa_cons (pv 3) pa_nil))) pe_int (fun _ _ => rfl)) (pa_cons (pe_ix (r := rIxT K) ix_tup (pe_call (ok_lhole T) (hr.mono (by decide)) (by rfl) T.m__law_hole T.F__law_hole.kp (b_lhole T) .nil pass0 (pa_cons (pv 4) (pa_cons (pv 3) pa_nil))) pe_int (fun _ _ => rfl)) pa_nil))) (nomark _)) (pss_one (ps_ret pe_bl)) pss_nil)
      (pss_one (ps_if (PW.pt (pw_and (pt_cmpR op_eq (pv 3) pe_int (nomark _)) (pw_and1 (pt_cmpR (op_neD hu) (pe_call (ok_lk T TB) (hr.mono (by decide)) (by rfl) T.m_looks_of T.F_looks_of.kp bdk rlk pass0 (pa_cons (pe_callTy call_tuple_of (by rfl) T.g_tuple (by decide +kernel) (pa_cons (pv 4) pa_nil)) pa_nil)) (pe_callN (ok_lk T TB) (hr.mono (by decide)) (by rfl) T.m_looks_of T.F_looks_of.kp klk pass0 (pa_cons (pv 4) pa_nil) (pk_cons pe_int pk_nil)) (nomark _))))) (pss_one (ps_ret pe_bl)) pss_nil))))))
      (C8.pss_cut (ps_set (i := 5) nd rfl (Or.inl rfl) (pe_call (ok_take T) (hr.mono (by decide)) (by rfl) T.m__law_take T.F__law_take.kp (b_take T) .nil pass0 (pa_cons (pv 1) (pa_cons pe_int pa_nil))))
      (C8.pss_cut (ps_set (i := 6) nd rfl (Or.inl rfl) (pe_ifExp (pt_cmpR op_gt (pv 5) pe_int (nomark _)) (pe_call (ok_lw T) (hr.mono (by decide)) (by rfl) T.m__law_ways_to T.F__law_ways_to.kp (b_lw T) .nil pass0 (pa_cons (pv 3) (pa_cons (pv 5) pa_nil))) (pe_lst pa_nil)))
      (C8.pss_cut (ps_set (i := 7) nd rfl (Or.inl rfl) (pe_tup (pa_cons (pe_callB (cr_sum rfl) (by rfl) T.g_sum (by decide +kernel) (pa_cons (pe_lc (own := [("row", 4)]) (g := gName 4) (tt := tYes) rfl nd (pi_list (pv 6)) (blkOk_by (own := [("row", 4)]) (N := ["script", "draw", "turn", "wide", "row", "many", "rows", "due"]) (sc := (defScope s_law)) (by decide +kernel)) (fun _ _ _ _ _ => pg_name (i := 4) nd rfl (Or.inl rfl)) (fun _ _ _ _ _ => pts_nil) (fun _ _ _ _ _ => (pe_ix (r := rIxT K) ix_tup (pe_call (ok_lout T) (hr.mono (by decide)) (by rfl) T.m__law_out T.F__law_out.kp (b_lout T) .nil pass0 (pa_cons (pv 4) (pa_cons (pv 3) pa_nil))) pe_int (fun _ _ => rfl)))) pa_nil)) (pa_cons (pe_callB (cr_sum rfl) (by rfl) T.g_sum (by decide +kernel) (pa_cons (pe_lc (own := [("row", 4)]) (g := gName 4) (tt := tYes) rfl nd (pi_list (pv 6)) (blkOk_by (own := [("row", 4)]) (N := ["script", "draw", "turn", "wide", "row", "many", "rows", "due"]) (sc := (defScope s_law)) (by decide +kernel)) (fun _ _ _ _ _ => pg_name (i := 4) nd rfl (Or.inl rfl)) (fun _ _ _ _ _ => pts_nil) (fun _ _ _ _ _ => (pe_ix (r := rIxT K) ix_tup (pe_call (ok_lhole T) (hr.mono (by decide)) (by rfl) T.m__law_hole T.F__law_hole.kp (b_lhole T) .nil pass0 (pa_cons (pv 4) (pa_cons (pv 3) pa_nil))) pe_int (fun _ _ => rfl)))) pa_nil)) pa_nil))))
      (C8.pss_cut (ps_if (pt_cmpR (op_neD hu) (pe_callN (ok_lov T TB) (hr.mono (by decide)) (by rfl) T.m_looks_over T.F_looks_over.kp klo pass0 (pa_cons (pv 5) pa_nil) (pk_cons (pv 3) pk_nil)) (pv 7) (nomark _)) (pss_one (ps_ret pe_bl)) pss_nil)
      (pss_one (ps_ret (pe_cmpR (op_eqD hu) (pe_call (ok_lov T TB) (hr.mono (by decide)) (by rfl) T.m_looks_over T.F_looks_over.kp blo rlo pass0 (pa_cons (pv 5) pa_nil)) (pe_callN (ok_lov T TB) (hr.mono (by decide)) (by rfl) T.m_looks_over T.F_looks_over.kp klo pass0 (pa_cons (pv 5) pa_nil) (pk_cons pe_int pk_nil)) (nomark _)))))))))), ?_⟩
    refine ⟨_, rfl, by show 2 ≤ sizeLine; decide, fun d hd => ?_⟩
    have dr0 : DrAt K _ d a ns 0 := DrAt.start ha hl hd
    have t0 : Tabs (TT A) (upd H d (.lst [.ref a, .int 0])) := hT.ext (Same.up hd)
    refine ⟨fun σ' H' => ∃ (k w : Nat) (x2 x4 : Option V), σ' = [some (.ref a), some (.ref d), x2, some (.int w), x4, none, none, none] ∧ DrAt K H' d a ns k ∧ Tabs (TT A) H' ∧ k ≤ 80 ∧ (1 ≤ w ∧ w ≤ 4), ?_, ?_⟩
    · refine ⟨4, rfl, by decide, by decide, for_range (n := 4) (fun i σ H' => ∃ (k : Nat) (x2 x3 x4 : Option V), σ = [some (.ref a), some (.ref d), x2, x3, x4, none, none, none] ∧ DrAt K H' d a ns k ∧ Tabs (TT A) H' ∧ k ≤ 20 * i ∧ (0 < i → ∃ w : Nat, x3 = some (.int w) ∧ (1 ≤ w ∧ w ≤ 4)))
        ⟨0, none, none, none, rfl, dr0, t0, by omega, fun h => absurd h (Nat.lt_irrefl 0)⟩ ?_ ?_⟩
      · rintro i σ H1 hi ⟨k, x2, x3, x4, rfl, dr1, t1, hk, _⟩
        refine ⟨fun σ' H' => ∃ w : Nat, σ' = [some (.ref a), some (.ref d), some (.int ((0 : Int) + (i : Nat))), some (.int w), x4, none, none, none] ∧ DrAt K H' d a ns (k + 1) ∧ Tabs (TT A) H' ∧ (1 ≤ w ∧ w ≤ 4), ?_, ?_⟩
        · exact ⟨_, rfl, d, a, ns, k, rfl, dr1, by omega, fun H2 w b2 dr2 hw => ⟨w, rfl, dr2, tabs_but t1 dr1.l b2, hw⟩⟩
        rintro σ' H2 ⟨w, rfl, dr2, t2, hw⟩
        refine ⟨fun σ' H' => ∃ (k' : Nat) (r : Addr) (ms : List Int), σ' = [some (.ref a), some (.ref d), some (.int ((0 : Int) + (i : Nat))), some (.int w), some (.ref r), none, none, none] ∧ DrAt K H' d a ns k' ∧ Tabs (TT A) H' ∧ k' ≤ 20 * i + 20 ∧ H' r = some (.lst (ms.map V.int)) ∧ HeapL ms.length w ms ∧ 1 ≤ ms.length ∧ ms.length ≤ 12 ∧ (∀ z ∈ ms, -1000000000 ≤ z ∧ z ≤ 1000000000), ?_, ?_⟩
        · refine ⟨_, rfl, d, a, ns, k + 1, 11, 9, rfl, dr2, by omega, by decide, by decide, fun H3 q3 ks k3 b3 dr3 hk3 hkl hkb n3 e3 => ?_⟩
          have n3d : q3 ≠ d := fun z => by rw [z, dr2.l] at n3; cases n3
          refine ⟨_, rfl, d, a, ns, k3, 9, rfl, dr3, by omega, by decide, fun H4 r4 b4 dr4 hr4 => ?_⟩
          refine ⟨by show 1 ≤ sizeLine; decide, fun l1 n1 => ?_⟩
          have s5 := Same.up (o := .lst [V.int (r4 : Nat)]) n1
          refine ⟨q3, l1, _, _, rfl, rfl, s5 _ _ (b4 _ _ n3d e3), upd_same, Nat.le_of_lt (small1000 (by rw [List.length_map, List.length_singleton]; omega)), fun l2 n2 => ?_⟩
          rw [map_one]
          have s6 := s5.trans (Same.up (o := .lst ((ks ++ [(r4 : Int)]).map V.int)) n2)
          refine ⟨_, rfl, l2, w, ks ++ [(r4 : Int)], rfl, hw, upd_same, by rw [List.length_append, List.length_singleton]; omega, fun H7 r ms s7 hh perm nr er => ?_⟩
          have s67 := s6.trans s7
          have hpl := perm.length_eq
          rw [List.length_append, List.length_singleton] at hpl
          refine ⟨k3 + 1, r, ms, rfl, dr4.same s67, (tabs_but (tabs_but t2 dr2.l b3) dr3.l b4).ext s67, by omega, er, hh, by omega, by omega, fun z hz => ?_⟩
          rcases List.mem_append.mp (perm.mem_iff.mp hz) with c | c
          · have := hkb z c
            omega
          · rw [List.mem_singleton.mp c]
            omega
        rintro σ' H3 ⟨k3, r, ms, rfl, dr3, t3, hk3, er, hh, hm1, hm12, hmb⟩
        have hf := heap_fault rfl hh
        have hne : ms ≠ [] := List.length_pos_iff.mp (by omega)
        have rin : ∀ {G : Hp}, ExtN H3 G → RowIn G r ms := fun x => ⟨.inl (x _ _ er (fun ps c => nomatch c)), hm12, hmb⟩
        refine ⟨fun σ' H' => σ' = [some (.ref a), some (.ref d), some (.int ((0 : Int) + (i : Nat))), some (.int w), some (.ref r), none, none, none] ∧ ExtN H3 H' ∧ Tabs (TT A) H', ?_, ?_⟩
        · refine ⟨_, rfl, _, rfl, rfl, rfl, r, w, ms, rfl, hw, rin (ExtN.refl _), hf, hne, t3, fun H4 t x4 t4 et => ?_⟩
          refine ⟨_, rfl, _, rfl, r, w, ms, rfl, hw, (rin x4).1, hm1, hm12, fun H5 d1 s5 hd1 => ?_⟩
          obtain ⟨u1, u2, g1, g2, g3⟩ := id hd1
          refine ⟨d1, _, _, _, rfl, rfl, SqT.of g1, rfl, ?_⟩
          refine ⟨_, rfl, _, rfl, r, w, ms, rfl, hw, ((rin x4).1).same s5, hm1, hm12, fun H6 d2 s6 hd2 => ?_⟩
          obtain ⟨v1, v2, f1, f2, f3⟩ := id hd2
          refine ⟨d2, _, _, _, rfl, rfl, SqT.of f1, rfl, ?_⟩
          refine ⟨by show 2 ≤ sizeLine; decide, fun u nu => ?_⟩
          have sA := s5.trans (s6.trans (Same.up (o := .tup ((lkL w ms).map V.int)) nu))
          refine ⟨_, _, ints_tup K (sA _ _ et), ints_tup K (ks := lkL w ms) upd_same, ints_shT _, ints_shT _, _, rfl, ?_⟩
          rw [show PyData.eqv (.tuple ((lkL w ms).map PyData.int)) (.tuple ((lkL w ms).map PyData.int)) = true from refl_of (ints_shT _)]
          exact iteF ⟨rfl, x4.trans (extN_of sA), t4.ext sA⟩
        rintro σ' H4 ⟨rfl, x4, t4⟩
        have fin : ∀ {G : Hp}, ExtN H3 G → Tabs (TT A) G → ∃ (k : Nat) (y2 y3 y4 : Option V), ([some (.ref a), some (.ref d), some (.int ((0 : Int) + (i : Nat))), some (.int w), some (.ref r), none, none, none] : L2.St) = [some (.ref a), some (.ref d), y2, y3, y4, none, none, none] ∧ DrAt K G d a ns k ∧ Tabs (TT A) G ∧ k ≤ 20 * (i + 1) ∧ (0 < i + 1 → ∃ w : Nat, y3 = some (.int w) ∧ (1 ≤ w ∧ w ≤ 4)) := fun x t =>
          ⟨k3, _, _, _, rfl, dr3.ext x, t, by omega, fun _ => ⟨w, rfl, hw⟩⟩
        refine ⟨_, rfl, rfl, _, rfl, ?_⟩
        by_cases h2 : w = 2
        · subst h2
          refine iteT ?_
          refine ⟨_, rfl, r, _, rfl, .inl ⟨SqL.of (x4 _ _ er (fun ps c => nomatch c)), fun t nt => ?_⟩⟩
          have st := Same.up (o := .tup (ms.map V.int)) nt
          refine ⟨t, 2, ms, rfl, hw, ⟨.inr upd_same, hm12, hmb⟩, hf, hne, t4.ext st, fun H5 u x5 t5 eu => ?_⟩
          have x45 := (x4.trans (extN_of st)).trans x5
          refine ⟨_, rfl, rfl, rfl, r, 2, ms, rfl, hw, rin x45, hf, hne, t5, fun H6 u2 x6 t6 eu2 => ?_⟩
          refine ⟨_, _, ints_tup K (x6 _ _ eu (fun ps c => nomatch c)), ints_tup K eu2, ints_shT _, ints_shT _, _, rfl, ?_⟩
          rw [refl_of (ints_shT _)]
          exact iteF (fin (x45.trans x6) t6)
        · rw [show decide (V.int (w : Nat) = V.int 2) = false from decide_eq_false (fun z => h2 (by injection z with z; omega))]
          exact iteF (iteF (fin x4 t4))
      · rintro σ H1 ⟨k, x2, x3, x4, rfl, dr1, t1, hk, hx⟩
        obtain ⟨w, rfl, hw⟩ := hx (by decide)
        exact ⟨k, w, x2, x4, rfl, dr1, t1, by omega, hw⟩
    rintro σ' H1 ⟨k, w, x2, x4, rfl, dr1, t1, hk, hw⟩
    refine ⟨fun σ' H' => ∃ n : Nat, σ' = [some (.ref a), some (.ref d), x2, some (.int w), x4, some (.int n), none, none] ∧ Tabs (TT A) H' ∧ n ≤ 6, ?_, ?_⟩
    · exact ⟨_, rfl, d, a, ns, k, 7, rfl, dr1, by omega, by decide, fun H2 r b2 dr2 hr2 => ⟨r, rfl, tabs_but t1 dr1.l b2, by omega⟩⟩
    rintro σ' H2 ⟨n, rfl, t2, hn⟩
    refine ⟨fun σ' H' => ∃ (q6 : Addr) (xs : List V), σ' = [some (.ref a), some (.ref d), x2, some (.int w), x4, some (.int n), some (.ref q6), none] ∧ Tabs (TT A) H' ∧ H' q6 = some (.lst xs) ∧ RowsAt H' xs (hsL n w), ?_, ?_⟩
    · refine ⟨_, rfl, _, _, rfl, rfl, _, rfl, ?_⟩
      by_cases h0 : 0 < n
      · rw [decide_eq_true (show (0 : Int) < (n : Nat) by omega)]
        refine iteT ?_
        refine ⟨_, rfl, _, rfl, w, n, rfl, hw, hn, fun H3 p ys s3 n3 e3 r3 => ⟨p, ys, rfl, t2.ext s3, e3, ?_⟩⟩
        rw [hs_all h0]
        exact r3
      · rw [decide_eq_false (show ¬ (0 : Int) < (n : Nat) by omega)]
        refine iteF ⟨Nat.zero_le _, fun l nl => ⟨l, [], rfl, t2.ext (Same.up nl), upd_same, ?_⟩⟩
        obtain rfl : n = 0 := by omega
        exact .nil
    rintro σ' H3 ⟨q6, xs, rfl, t3, e6, r6⟩
    have hxl : xs.length = (hsL n w).length := Paired.length r6
    have hal : (hsL n w).length ≤ 40320 := by
      have a := ext_len (ks := rgI n) (w := w) (by rw [rgI_len]; omega) (rgI n).length (Nat.le_refl _)
      have b := bnd_top (rgI n).length (by rw [rgI_len]; omega)
      have c := List.length_filter_le (fun h : List Int => decide (h ≠ [])) (allH (rgI n) w)
      have e : (allH (rgI n) w).length = (extL (rgI n) w (rgI n).length).length := rfl
      show ((allH (rgI n) w).filter fun h => decide (h ≠ [])).length ≤ _
      omega
    have hmem : ∀ h ∈ hsL n w, 1 ≤ h.length ∧ h.length ≤ 12 := fun h hh => by
      obtain ⟨h1, h2⟩ := List.mem_filter.mp hh
      obtain ⟨gp, _⟩ := allH_mem h1
      have := gp.length_eq
      rw [rgI_len] at this
      have hp := List.length_pos_iff.mpr (of_decide_eq_true h2)
      omega
    refine ⟨fun σ' H' => ∃ u : Addr, σ' = [some (.ref a), some (.ref d), x2, some (.int w), x4, some (.int n), some (.ref q6), some (.ref u)] ∧ Tabs (TT A) H' ∧ H' u = some (.tup ([((hsL n w).map fun h => ((takeR h w).2.2 : Int)).sum, ((hsL n w).map fun h => ((holeR h w).2.2 : Int)).sum].map V.int)), ?_, ?_⟩
    · refine ⟨_, rfl, q6, rfl, ⟨_, SqL.of e6⟩, fun D nD => ?_⟩
      refine lc_it (walk_list (xs := xs)) (fun j H' => Acc H3 D ((((hsL n w).take j).map fun h => ((takeR h w).2.2 : Int)).map V.int) H') (Acc.start nD) (fun j H' _ ac => SqL.of (ac.s _ _ e6)) ?_ ?_
      · rintro j y H4o H4 hj ac ⟨rfl, hy⟩
        obtain ⟨hj2, t, rfl, et⟩ := r6.get hy
        obtain ⟨m1, m2⟩ := hmem _ (List.getElem_mem hj2)
        refine ⟨rfl, iteT (B := Acc H3 D ((((hsL n w).take (j + 1)).map fun h => ((takeR h w).2.2 : Int)).map V.int) H4) ?_⟩
        refine ⟨_, rfl, _, rfl, t, w, _, rfl, hw, .inr (ac.s _ _ et), m1, m2, fun H5 d1 s5 hd1 => ?_⟩
        obtain ⟨u1, u2, g1, g2, g3⟩ := id hd1
        refine ⟨d1, _, _, _, rfl, rfl, SqT.of g1, rfl, ?_⟩
        have ac5 := ac.same s5
        refine ⟨_, ac5.a, by rw [List.length_map, List.length_map, List.length_take, sizeLine_eq]; omega, ?_⟩
        rw [← List.take_append_getElem hj2, List.map_append, List.map_append]
        exact ac5.push
      · intro H4 ac
        rw [hxl, List.take_length] at ac
        refine ⟨D, (hsL n w).map fun h => ((takeR h w).2.2 : Int), rfl, SqL.of ac.a, ?_⟩
        have e64 := ac.s _ _ e6
        have r64 := RowsAt.same r6 ac.s
        refine ⟨_, rfl, q6, rfl, ⟨_, SqL.of e64⟩, fun D2 nD2 => ?_⟩
        refine lc_it (walk_list (xs := xs)) (fun j H' => Acc H4 D2 ((((hsL n w).take j).map fun h => ((holeR h w).2.2 : Int)).map V.int) H') (Acc.start nD2) (fun j H' _ ac2 => SqL.of (ac2.s _ _ e64)) ?_ ?_
        · rintro j y H5o H5 hj ac2 ⟨rfl, hy⟩
          obtain ⟨hj2, t, rfl, et⟩ := r64.get hy
          obtain ⟨m1, m2⟩ := hmem _ (List.getElem_mem hj2)
          refine ⟨rfl, iteT (B := Acc H4 D2 ((((hsL n w).take (j + 1)).map fun h => ((holeR h w).2.2 : Int)).map V.int) H5) ?_⟩
          refine ⟨_, rfl, _, rfl, t, w, _, rfl, hw, .inr (ac2.s _ _ et), m1, m2, fun H6 d1 s6 hd1 => ?_⟩
          obtain ⟨u1, u2, g1, g2, g3⟩ := id hd1
          refine ⟨d1, _, _, _, rfl, rfl, SqT.of g1, rfl, ?_⟩
          have ac6 := ac2.same s6
          refine ⟨_, ac6.a, by rw [List.length_map, List.length_map, List.length_take, sizeLine_eq]; omega, ?_⟩
          rw [← List.take_append_getElem hj2, List.map_append, List.map_append]
          exact ac6.push
        · intro H5 ac2
          rw [hxl, List.take_length] at ac2
          refine ⟨D2, (hsL n w).map fun h => ((holeR h w).2.2 : Int), rfl, SqL.of ac2.a, ?_⟩
          refine ⟨by show 2 ≤ sizeLine; decide, fun u nu => ?_⟩
          have sA := (ac.s.trans ac2.s).trans (Same.up (o := .tup [V.int ((hsL n w).map fun h => ((takeR h w).2.2 : Int)).sum, V.int ((hsL n w).map fun h => ((holeR h w).2.2 : Int)).sum]) nu)
          exact ⟨u, rfl, t3.ext sA, upd_same⟩
    rintro σ' H4 ⟨u, rfl, t4, eu⟩
    refine ⟨fun σ' H' => σ' = [some (.ref a), some (.ref d), x2, some (.int w), x4, some (.int n), some (.ref q6), some (.ref u)] ∧ Tabs (TT A) H', ?_, ?_⟩
    · refine ⟨_, rfl, _, rfl, rfl, rfl, n, w, rfl, hn, hw, t4, fun H5 z x5 t5 ez => ?_⟩
      refine ⟨_, rfl, _, _, ints_tup K ez, ints_tup K (x5 _ _ eu (fun ps c => nomatch c)), ints_shT _, ints_shT _, _, rfl, ?_⟩
      rw [refl_of (ints_shT _)]
      exact iteF ⟨rfl, t5⟩
    rintro σ' H5 ⟨rfl, t5⟩
    refine ⟨_, rfl, n, 2, rfl, hn, by decide, t5, fun H6 z x6 t6 ez => ?_⟩
    refine ⟨_, rfl, rfl, rfl, n, 2, rfl, hn, by decide, t6, fun H7 z2 x7 t7 ez2 => ?_⟩
    refine ⟨_, _, ints_tup K (x7 _ _ ez (fun ps c => nomatch c)), ints_tup K ez2, ints_shT _, ints_shT _, ?_⟩
    rw [refl_of (ints_shT _)]
    exact q _
theorem b_law (T : Tx K mg A) : L2.Binds K A.d_law ["script"] [] := T.F_law.binds fun _ _ _ _ _ _ us hl => match us, hl with | [_], _ => rfl

end
end Tw

set_option Elab.async false
set_option linter.all false
set_option maxRecDepth 100000
set_option maxHeartbeats 2000000
namespace Tw
open PySem PySem.Spec PyProof.Rows L2
theorem kit_no {K : PySem.W.Frag} {C : Addr} {t : String} (hc : PySem.W.isClsIn K C = true) (ht : PySem.W.typeIn K (.ref C) = some (.type "type")) (hs : PySem.W.subIn K (.type t) (.ref C) = some false) : PySem.W.kitOne K (.type t) (.ref C) = some false := by
  unfold PySem.W.kitOne PySem.W.kitCls
  have h1 : (PySem.W.clsIn K C).isSome = true := hc
  simp only [h1, ht, hs, beq_self_eq_true, Bool.and_self, if_true]
  rfl
theorem all_mk {l : PySem.W.OpenLaw} {w : World} {K : PySem.W.Frag} {h : Heap} {mg : Str → Option Value} (X : K.In h) (G : h.Ns mainGlobals mg) {fa C CS po D_t___init__ D_t_of D_faults D_all_heaps D_sift_up D_sift_down D_take D_take_by_hole D_looks_of D_looks_over f_is_integer f_is_integer_from f_is_key f_check_arms f_check_many f_check_place f_check_few f_row_of f_t___init__ f_t_of f_t___len__ f_t___iter__ f_t___getitem__ f_t_parent f_t_way_to f_faults f_heap_of f_next_keys f_all_heaps f_z___init__ f_z___eq__ f_sift_up f_sift_down f_least_child f_take f_take_by_hole f_filled_heap_of f_check_filled f_looks_of f_looks_over f__law_number f__law_take f__law_pick f__law_parent f__law_children f__law_way f__law_arms f__law_keys f__law_is_heap f__law_lists f__law_heaps f__law_heap f__law_up f__law_down f__law_hole f__law_out f__law_ways_to f_law : Addr} {cc_least_child PP_least_child : Addr} {od_is_integer an_is_integer : Option Addr} {sl_is_integer : Array (Option Value)} {oc_is_integer kV_is_integer dc_is_integer pm_is_integer cd_is_integer ct_is_integer : Value} {od_is_integer_from an_is_integer_from : Option Addr} {sl_is_integer_from : Array (Option Value)} {oc_is_integer_from kV_is_integer_from dc_is_integer_from pm_is_integer_from cd_is_integer_from ct_is_integer_from : Value} {od_is_key an_is_key : Option Addr} {sl_is_key : Array (Option Value)} {oc_is_key kV_is_key dc_is_key pm_is_key cd_is_key ct_is_key : Value} {od_check_arms an_check_arms : Option Addr} {sl_check_arms : Array (Option Value)} {oc_check_arms kV_check_arms dc_check_arms pm_check_arms cd_check_arms ct_check_arms : Value} {od_check_many an_check_many : Option Addr} {sl_check_many : Array (Option Value)} {oc_check_many kV_check_many dc_check_many pm_check_many cd_check_many ct_check_many : Value} {od_check_place an_check_place : Option Addr} {sl_check_place : Array (Option Value)} {oc_check_place kV_check_place dc_check_place pm_check_place cd_check_place ct_check_place : Value} {od_check_few an_check_few : Option Addr} {sl_check_few : Array (Option Value)} {oc_check_few kV_check_few dc_check_few pm_check_few cd_check_few ct_check_few : Value} {od_row_of an_row_of : Option Addr} {sl_row_of : Array (Option Value)} {oc_row_of kV_row_of dc_row_of pm_row_of cd_row_of ct_row_of : Value} {od_t___init__ an_t___init__ : Option Addr} {sl_t___init__ : Array (Option Value)} {oc_t___init__  dc_t___init__ pm_t___init__ cd_t___init__ ct_t___init__ : Value} {od_t_of an_t_of : Option Addr} {sl_t_of : Array (Option Value)} {oc_t_of  dc_t_of pm_t_of cd_t_of ct_t_of : Value} {od_t___len__ an_t___len__ : Option Addr} {sl_t___len__ : Array (Option Value)} {oc_t___len__ kV_t___len__ dc_t___len__ pm_t___len__ cd_t___len__ ct_t___len__ : Value} {od_t___iter__ an_t___iter__ : Option Addr} {sl_t___iter__ : Array (Option Value)} {oc_t___iter__ kV_t___iter__ dc_t___iter__ pm_t___iter__ cd_t___iter__ ct_t___iter__ : Value} {od_t___getitem__ an_t___getitem__ : Option Addr} {sl_t___getitem__ : Array (Option Value)} {oc_t___getitem__ kV_t___getitem__ dc_t___getitem__ pm_t___getitem__ cd_t___getitem__ ct_t___getitem__ : Value} {od_t_parent an_t_parent : Option Addr} {sl_t_parent : Array (Option Value)} {oc_t_parent kV_t_parent dc_t_parent pm_t_parent cd_t_parent ct_t_parent : Value} {od_t_way_to an_t_way_to : Option Addr} {sl_t_way_to : Array (Option Value)} {oc_t_way_to kV_t_way_to dc_t_way_to pm_t_way_to cd_t_way_to ct_t_way_to : Value} {od_faults an_faults : Option Addr} {sl_faults : Array (Option Value)} {oc_faults  dc_faults pm_faults cd_faults ct_faults : Value} {od_heap_of an_heap_of : Option Addr} {sl_heap_of : Array (Option Value)} {oc_heap_of kV_heap_of dc_heap_of pm_heap_of cd_heap_of ct_heap_of : Value} {od_next_keys an_next_keys : Option Addr} {sl_next_keys : Array (Option Value)} {oc_next_keys kV_next_keys dc_next_keys pm_next_keys cd_next_keys ct_next_keys : Value} {od_all_heaps an_all_heaps : Option Addr} {sl_all_heaps : Array (Option Value)} {oc_all_heaps  dc_all_heaps pm_all_heaps cd_all_heaps ct_all_heaps : Value} {od_z___init__ an_z___init__ : Option Addr} {sl_z___init__ : Array (Option Value)} {oc_z___init__ kV_z___init__ dc_z___init__ pm_z___init__ cd_z___init__ ct_z___init__ : Value} {od_z___eq__ an_z___eq__ : Option Addr} {sl_z___eq__ : Array (Option Value)} {oc_z___eq__ kV_z___eq__ dc_z___eq__ pm_z___eq__ cd_z___eq__ ct_z___eq__ : Value} {od_sift_up an_sift_up : Option Addr} {sl_sift_up : Array (Option Value)} {oc_sift_up  dc_sift_up pm_sift_up cd_sift_up ct_sift_up : Value} {od_sift_down an_sift_down : Option Addr} {sl_sift_down : Array (Option Value)} {oc_sift_down  dc_sift_down pm_sift_down cd_sift_down ct_sift_down : Value} {od_least_child an_least_child : Option Addr} {sl_least_child : Array (Option Value)} {oc_least_child kV_least_child dc_least_child pm_least_child  ct_least_child : Value} {od_take an_take : Option Addr} {sl_take : Array (Option Value)} {oc_take  dc_take pm_take cd_take ct_take : Value} {od_take_by_hole an_take_by_hole : Option Addr} {sl_take_by_hole : Array (Option Value)} {oc_take_by_hole  dc_take_by_hole pm_take_by_hole cd_take_by_hole ct_take_by_hole : Value} {od_filled_heap_of an_filled_heap_of : Option Addr} {sl_filled_heap_of : Array (Option Value)} {oc_filled_heap_of kV_filled_heap_of dc_filled_heap_of pm_filled_heap_of cd_filled_heap_of ct_filled_heap_of : Value} {od_check_filled an_check_filled : Option Addr} {sl_check_filled : Array (Option Value)} {oc_check_filled kV_check_filled dc_check_filled pm_check_filled cd_check_filled ct_check_filled : Value} {od_looks_of an_looks_of : Option Addr} {sl_looks_of : Array (Option Value)} {oc_looks_of  dc_looks_of pm_looks_of cd_looks_of ct_looks_of : Value} {od_looks_over an_looks_over : Option Addr} {sl_looks_over : Array (Option Value)} {oc_looks_over  dc_looks_over pm_looks_over cd_looks_over ct_looks_over : Value} {od__law_number an__law_number : Option Addr} {sl__law_number : Array (Option Value)} {oc__law_number kV__law_number dc__law_number pm__law_number cd__law_number ct__law_number : Value} {od__law_take an__law_take : Option Addr} {sl__law_take : Array (Option Value)} {oc__law_take kV__law_take dc__law_take pm__law_take cd__law_take ct__law_take : Value} {od__law_pick an__law_pick : Option Addr} {sl__law_pick : Array (Option Value)} {oc__law_pick kV__law_pick dc__law_pick pm__law_pick cd__law_pick ct__law_pick : Value} {od__law_parent an__law_parent : Option Addr} {sl__law_parent : Array (Option Value)} {oc__law_parent kV__law_parent dc__law_parent pm__law_parent cd__law_parent ct__law_parent : Value} {od__law_children an__law_children : Option Addr} {sl__law_children : Array (Option Value)} {oc__law_children kV__law_children dc__law_children pm__law_children cd__law_children ct__law_children : Value} {od__law_way an__law_way : Option Addr} {sl__law_way : Array (Option Value)} {oc__law_way kV__law_way dc__law_way pm__law_way cd__law_way ct__law_way : Value} {od__law_arms an__law_arms : Option Addr} {sl__law_arms : Array (Option Value)} {oc__law_arms kV__law_arms dc__law_arms pm__law_arms cd__law_arms ct__law_arms : Value} {od__law_keys an__law_keys : Option Addr} {sl__law_keys : Array (Option Value)} {oc__law_keys kV__law_keys dc__law_keys pm__law_keys cd__law_keys ct__law_keys : Value} {od__law_is_heap an__law_is_heap : Option Addr} {sl__law_is_heap : Array (Option Value)} {oc__law_is_heap kV__law_is_heap dc__law_is_heap pm__law_is_heap cd__law_is_heap ct__law_is_heap : Value} {od__law_lists an__law_lists : Option Addr} {sl__law_lists : Array (Option Value)} {oc__law_lists kV__law_lists dc__law_lists pm__law_lists cd__law_lists ct__law_lists : Value} {od__law_heaps an__law_heaps : Option Addr} {sl__law_heaps : Array (Option Value)} {oc__law_heaps kV__law_heaps dc__law_heaps pm__law_heaps cd__law_heaps ct__law_heaps : Value} {od__law_heap an__law_heap : Option Addr} {sl__law_heap : Array (Option Value)} {oc__law_heap kV__law_heap dc__law_heap pm__law_heap cd__law_heap ct__law_heap : Value} {od__law_up an__law_up : Option Addr} {sl__law_up : Array (Option Value)} {oc__law_up kV__law_up dc__law_up pm__law_up cd__law_up ct__law_up : Value} {od__law_down an__law_down : Option Addr} {sl__law_down : Array (Option Value)} {oc__law_down kV__law_down dc__law_down pm__law_down cd__law_down ct__law_down : Value} {od__law_hole an__law_hole : Option Addr} {sl__law_hole : Array (Option Value)} {oc__law_hole kV__law_hole dc__law_hole pm__law_hole cd__law_hole ct__law_hole : Value} {od__law_out an__law_out : Option Addr} {sl__law_out : Array (Option Value)} {oc__law_out kV__law_out dc__law_out pm__law_out cd__law_out ct__law_out : Value} {od__law_ways_to an__law_ways_to : Option Addr} {sl__law_ways_to : Array (Option Value)} {oc__law_ways_to kV__law_ways_to dc__law_ways_to pm__law_ways_to cd__law_ways_to ct__law_ways_to : Value} {od_law an_law : Option Addr} {sl_law : Array (Option Value)} {oc_law kV_law dc_law pm_law cd_law ct_law : Value}
    (hfa : mg "law" = some (.ref fa))
    (aC : PySem.W.nsIn K mainGlobals "Tree" = some (some (.ref C)))
    (aCS : PySem.W.nsIn K mainGlobals "Sift" = some (some (.ref CS)))
    (a_is_integer : PySem.W.nsIn K mainGlobals "is_integer" = some (some (.ref f_is_integer)))
    (l_is_integer : K.lookup f_is_integer = some ⟨oc_is_integer, od_is_integer, .func (PySem.W.fnOf "is_integer" "is_integer" (defArgs s_is_integer) (defBody s_is_integer) (defScope s_is_integer) .none kV_is_integer dc_is_integer pm_is_integer an_is_integer cd_is_integer ct_is_integer), sl_is_integer⟩)
    (c_is_integer : PySem.W.codeIn K cd_is_integer "is_integer" = true)
    (k_is_integer : PySem.W.keepIn K (.ref f_is_integer) = true)
    (a_is_integer_from : PySem.W.nsIn K mainGlobals "is_integer_from" = some (some (.ref f_is_integer_from)))
    (l_is_integer_from : K.lookup f_is_integer_from = some ⟨oc_is_integer_from, od_is_integer_from, .func (PySem.W.fnOf "is_integer_from" "is_integer_from" (defArgs s_is_integer_from) (defBody s_is_integer_from) (defScope s_is_integer_from) .none kV_is_integer_from dc_is_integer_from pm_is_integer_from an_is_integer_from cd_is_integer_from ct_is_integer_from), sl_is_integer_from⟩)
    (c_is_integer_from : PySem.W.codeIn K cd_is_integer_from "is_integer_from" = true)
    (k_is_integer_from : PySem.W.keepIn K (.ref f_is_integer_from) = true)
    (a_is_key : PySem.W.nsIn K mainGlobals "is_key" = some (some (.ref f_is_key)))
    (l_is_key : K.lookup f_is_key = some ⟨oc_is_key, od_is_key, .func (PySem.W.fnOf "is_key" "is_key" (defArgs s_is_key) (defBody s_is_key) (defScope s_is_key) .none kV_is_key dc_is_key pm_is_key an_is_key cd_is_key ct_is_key), sl_is_key⟩)
    (c_is_key : PySem.W.codeIn K cd_is_key "is_key" = true)
    (k_is_key : PySem.W.keepIn K (.ref f_is_key) = true)
    (a_check_arms : PySem.W.nsIn K mainGlobals "check_arms" = some (some (.ref f_check_arms)))
    (l_check_arms : K.lookup f_check_arms = some ⟨oc_check_arms, od_check_arms, .func (PySem.W.fnOf "check_arms" "check_arms" (defArgs s_check_arms) (defBody s_check_arms) (defScope s_check_arms) .none kV_check_arms dc_check_arms pm_check_arms an_check_arms cd_check_arms ct_check_arms), sl_check_arms⟩)
    (c_check_arms : PySem.W.codeIn K cd_check_arms "check_arms" = true)
    (k_check_arms : PySem.W.keepIn K (.ref f_check_arms) = true)
    (a_check_many : PySem.W.nsIn K mainGlobals "check_many" = some (some (.ref f_check_many)))
    (l_check_many : K.lookup f_check_many = some ⟨oc_check_many, od_check_many, .func (PySem.W.fnOf "check_many" "check_many" (defArgs s_check_many) (defBody s_check_many) (defScope s_check_many) .none kV_check_many dc_check_many pm_check_many an_check_many cd_check_many ct_check_many), sl_check_many⟩)
    (c_check_many : PySem.W.codeIn K cd_check_many "check_many" = true)
    (k_check_many : PySem.W.keepIn K (.ref f_check_many) = true)
    (a_check_place : PySem.W.nsIn K mainGlobals "check_place" = some (some (.ref f_check_place)))
    (l_check_place : K.lookup f_check_place = some ⟨oc_check_place, od_check_place, .func (PySem.W.fnOf "check_place" "check_place" (defArgs s_check_place) (defBody s_check_place) (defScope s_check_place) .none kV_check_place dc_check_place pm_check_place an_check_place cd_check_place ct_check_place), sl_check_place⟩)
    (c_check_place : PySem.W.codeIn K cd_check_place "check_place" = true)
    (k_check_place : PySem.W.keepIn K (.ref f_check_place) = true)
    (a_check_few : PySem.W.nsIn K mainGlobals "check_few" = some (some (.ref f_check_few)))
    (l_check_few : K.lookup f_check_few = some ⟨oc_check_few, od_check_few, .func (PySem.W.fnOf "check_few" "check_few" (defArgs s_check_few) (defBody s_check_few) (defScope s_check_few) .none kV_check_few dc_check_few pm_check_few an_check_few cd_check_few ct_check_few), sl_check_few⟩)
    (c_check_few : PySem.W.codeIn K cd_check_few "check_few" = true)
    (k_check_few : PySem.W.keepIn K (.ref f_check_few) = true)
    (a_row_of : PySem.W.nsIn K mainGlobals "row_of" = some (some (.ref f_row_of)))
    (l_row_of : K.lookup f_row_of = some ⟨oc_row_of, od_row_of, .func (PySem.W.fnOf "row_of" "row_of" (defArgs s_row_of) (defBody s_row_of) (defScope s_row_of) .none kV_row_of dc_row_of pm_row_of an_row_of cd_row_of ct_row_of), sl_row_of⟩)
    (c_row_of : PySem.W.codeIn K cd_row_of "row_of" = true)
    (k_row_of : PySem.W.keepIn K (.ref f_row_of) = true)
    (a_t___init__ : PySem.W.findIn K (.ref C) "__init__" = some (some (.ref f_t___init__)))
    (i_t___init__ : PySem.W.isFn K (.ref f_t___init__) = true)
    (l_t___init__ : K.lookup f_t___init__ = some ⟨oc_t___init__, od_t___init__, .func (PySem.W.fnOf "__init__" "Tree.__init__" (defArgs s_t___init__) (defBody s_t___init__) (defScope s_t___init__) .none (.ref D_t___init__) dc_t___init__ pm_t___init__ an_t___init__ cd_t___init__ ct_t___init__), sl_t___init__⟩)
    (c_t___init__ : PySem.W.codeIn K cd_t___init__ "Tree.__init__" = true)
    (k_t___init__ : PySem.W.keepIn K (.ref f_t___init__) = true)
    {tk_t___init__ : Tok}
    (w_t___init__ : PySem.W.nsIn K D_t___init__ "arms" = some (some (.int 2 tk_t___init__)))
    (a_t_of : PySem.W.findCls K (.ref C) (.type "type") "of" = some (.get (.builtin "classmethod.__get__") (.ref po) .none (.ref C)))
    {rest_of : List Value}
    (r_t_of : PySem.W.recIn K po "classmethod" = some (.ref f_t_of :: rest_of))
    (n_t_of : PySem.W.fnIn K f_t_of = true)
    (l_t_of : K.lookup f_t_of = some ⟨oc_t_of, od_t_of, .func (PySem.W.fnOf "of" "Tree.of" (defArgs s_t_of) (defBody s_t_of) (defScope s_t_of) .none (.ref D_t_of) dc_t_of pm_t_of an_t_of cd_t_of ct_t_of), sl_t_of⟩)
    (c_t_of : PySem.W.codeIn K cd_t_of "Tree.of" = true)
    (k_t_of : PySem.W.keepIn K (.ref f_t_of) = true)
    {tk_t_of : Tok}
    (w_t_of : PySem.W.nsIn K D_t_of "arms" = some (some (.int 2 tk_t_of)))
    (a_t___len__ : PySem.W.findIn K (.ref C) "__len__" = some (some (.ref f_t___len__)))
    (i_t___len__ : PySem.W.isFn K (.ref f_t___len__) = true)
    (n_t___len__ : PySem.W.fnIn K f_t___len__ = true)
    (l_t___len__ : K.lookup f_t___len__ = some ⟨oc_t___len__, od_t___len__, .func (PySem.W.fnOf "__len__" "Tree.__len__" (defArgs s_t___len__) (defBody s_t___len__) (defScope s_t___len__) .none kV_t___len__ dc_t___len__ pm_t___len__ an_t___len__ cd_t___len__ ct_t___len__), sl_t___len__⟩)
    (c_t___len__ : PySem.W.codeIn K cd_t___len__ "Tree.__len__" = true)
    (k_t___len__ : PySem.W.keepIn K (.ref f_t___len__) = true)
    (a_t___iter__ : PySem.W.findIn K (.ref C) "__iter__" = some (some (.ref f_t___iter__)))
    (i_t___iter__ : PySem.W.isFn K (.ref f_t___iter__) = true)
    (n_t___iter__ : PySem.W.fnIn K f_t___iter__ = true)
    (l_t___iter__ : K.lookup f_t___iter__ = some ⟨oc_t___iter__, od_t___iter__, .func (PySem.W.fnOf "__iter__" "Tree.__iter__" (defArgs s_t___iter__) (defBody s_t___iter__) (defScope s_t___iter__) .none kV_t___iter__ dc_t___iter__ pm_t___iter__ an_t___iter__ cd_t___iter__ ct_t___iter__), sl_t___iter__⟩)
    (c_t___iter__ : PySem.W.codeIn K cd_t___iter__ "Tree.__iter__" = true)
    (k_t___iter__ : PySem.W.keepIn K (.ref f_t___iter__) = true)
    (a_t___getitem__ : PySem.W.findIn K (.ref C) "__getitem__" = some (some (.ref f_t___getitem__)))
    (i_t___getitem__ : PySem.W.isFn K (.ref f_t___getitem__) = true)
    (n_t___getitem__ : PySem.W.fnIn K f_t___getitem__ = true)
    (l_t___getitem__ : K.lookup f_t___getitem__ = some ⟨oc_t___getitem__, od_t___getitem__, .func (PySem.W.fnOf "__getitem__" "Tree.__getitem__" (defArgs s_t___getitem__) (defBody s_t___getitem__) (defScope s_t___getitem__) .none kV_t___getitem__ dc_t___getitem__ pm_t___getitem__ an_t___getitem__ cd_t___getitem__ ct_t___getitem__), sl_t___getitem__⟩)
    (c_t___getitem__ : PySem.W.codeIn K cd_t___getitem__ "Tree.__getitem__" = true)
    (k_t___getitem__ : PySem.W.keepIn K (.ref f_t___getitem__) = true)
    (a_t_parent : PySem.W.findIn K (.ref C) "parent" = some (some (.ref f_t_parent)))
    (i_t_parent : PySem.W.isFn K (.ref f_t_parent) = true)
    (l_t_parent : K.lookup f_t_parent = some ⟨oc_t_parent, od_t_parent, .func (PySem.W.fnOf "parent" "Tree.parent" (defArgs s_t_parent) (defBody s_t_parent) (defScope s_t_parent) .none kV_t_parent dc_t_parent pm_t_parent an_t_parent cd_t_parent ct_t_parent), sl_t_parent⟩)
    (c_t_parent : PySem.W.codeIn K cd_t_parent "Tree.parent" = true)
    (k_t_parent : PySem.W.keepIn K (.ref f_t_parent) = true)
    (a_t_way_to : PySem.W.findIn K (.ref C) "way_to" = some (some (.ref f_t_way_to)))
    (i_t_way_to : PySem.W.isFn K (.ref f_t_way_to) = true)
    (l_t_way_to : K.lookup f_t_way_to = some ⟨oc_t_way_to, od_t_way_to, .func (PySem.W.fnOf "way_to" "Tree.way_to" (defArgs s_t_way_to) (defBody s_t_way_to) (defScope s_t_way_to) .none kV_t_way_to dc_t_way_to pm_t_way_to an_t_way_to cd_t_way_to ct_t_way_to), sl_t_way_to⟩)
    (c_t_way_to : PySem.W.codeIn K cd_t_way_to "Tree.way_to" = true)
    (k_t_way_to : PySem.W.keepIn K (.ref f_t_way_to) = true)
    (a_faults : PySem.W.nsIn K mainGlobals "faults" = some (some (.ref f_faults)))
    (l_faults : K.lookup f_faults = some ⟨oc_faults, od_faults, .func (PySem.W.fnOf "faults" "faults" (defArgs s_faults) (defBody s_faults) (defScope s_faults) .none (.ref D_faults) dc_faults pm_faults an_faults cd_faults ct_faults), sl_faults⟩)
    (c_faults : PySem.W.codeIn K cd_faults "faults" = true)
    (k_faults : PySem.W.keepIn K (.ref f_faults) = true)
    {tk_faults : Tok}
    (w_faults : PySem.W.nsIn K D_faults "arms" = some (some (.int 2 tk_faults)))
    (a_heap_of : PySem.W.nsIn K mainGlobals "heap_of" = some (some (.ref f_heap_of)))
    (l_heap_of : K.lookup f_heap_of = some ⟨oc_heap_of, od_heap_of, .func (PySem.W.fnOf "heap_of" "heap_of" (defArgs s_heap_of) (defBody s_heap_of) (defScope s_heap_of) .none kV_heap_of dc_heap_of pm_heap_of an_heap_of cd_heap_of ct_heap_of), sl_heap_of⟩)
    (c_heap_of : PySem.W.codeIn K cd_heap_of "heap_of" = true)
    (k_heap_of : PySem.W.keepIn K (.ref f_heap_of) = true)
    (a_next_keys : PySem.W.nsIn K mainGlobals "next_keys" = some (some (.ref f_next_keys)))
    (l_next_keys : K.lookup f_next_keys = some ⟨oc_next_keys, od_next_keys, .func (PySem.W.fnOf "next_keys" "next_keys" (defArgs s_next_keys) (defBody s_next_keys) (defScope s_next_keys) .none kV_next_keys dc_next_keys pm_next_keys an_next_keys cd_next_keys ct_next_keys), sl_next_keys⟩)
    (c_next_keys : PySem.W.codeIn K cd_next_keys "next_keys" = true)
    (k_next_keys : PySem.W.keepIn K (.ref f_next_keys) = true)
    (a_all_heaps : PySem.W.nsIn K mainGlobals "all_heaps" = some (some (.ref f_all_heaps)))
    (l_all_heaps : K.lookup f_all_heaps = some ⟨oc_all_heaps, od_all_heaps, .func (PySem.W.fnOf "all_heaps" "all_heaps" (defArgs s_all_heaps) (defBody s_all_heaps) (defScope s_all_heaps) .none (.ref D_all_heaps) dc_all_heaps pm_all_heaps an_all_heaps cd_all_heaps ct_all_heaps), sl_all_heaps⟩)
    (c_all_heaps : PySem.W.codeIn K cd_all_heaps "all_heaps" = true)
    (k_all_heaps : PySem.W.keepIn K (.ref f_all_heaps) = true)
    {tk_all_heaps : Tok}
    (w_all_heaps : PySem.W.nsIn K D_all_heaps "arms" = some (some (.int 2 tk_all_heaps)))
    (a_z___init__ : PySem.W.findIn K (.ref CS) "__init__" = some (some (.ref f_z___init__)))
    (i_z___init__ : PySem.W.isFn K (.ref f_z___init__) = true)
    (l_z___init__ : K.lookup f_z___init__ = some ⟨oc_z___init__, od_z___init__, .func (PySem.W.fnOf "__init__" "Sift.__init__" (defArgs s_z___init__) (defBody s_z___init__) (defScope s_z___init__) .none kV_z___init__ dc_z___init__ pm_z___init__ an_z___init__ cd_z___init__ ct_z___init__), sl_z___init__⟩)
    (c_z___init__ : PySem.W.codeIn K cd_z___init__ "Sift.__init__" = true)
    (k_z___init__ : PySem.W.keepIn K (.ref f_z___init__) = true)
    (a_z___eq__ : PySem.W.findIn K (.ref CS) "__eq__" = some (some (.ref f_z___eq__)))
    (i_z___eq__ : PySem.W.isFn K (.ref f_z___eq__) = true)
    (l_z___eq__ : K.lookup f_z___eq__ = some ⟨oc_z___eq__, od_z___eq__, .func (PySem.W.fnOf "__eq__" "Sift.__eq__" (defArgs s_z___eq__) (defBody s_z___eq__) (defScope s_z___eq__) .none kV_z___eq__ dc_z___eq__ pm_z___eq__ an_z___eq__ cd_z___eq__ ct_z___eq__), sl_z___eq__⟩)
    (c_z___eq__ : PySem.W.codeIn K cd_z___eq__ "Sift.__eq__" = true)
    (k_z___eq__ : PySem.W.keepIn K (.ref f_z___eq__) = true)
    (a_sift_up : PySem.W.nsIn K mainGlobals "sift_up" = some (some (.ref f_sift_up)))
    (l_sift_up : K.lookup f_sift_up = some ⟨oc_sift_up, od_sift_up, .func (PySem.W.fnOf "sift_up" "sift_up" (defArgs s_sift_up) (defBody s_sift_up) (defScope s_sift_up) .none (.ref D_sift_up) dc_sift_up pm_sift_up an_sift_up cd_sift_up ct_sift_up), sl_sift_up⟩)
    (c_sift_up : PySem.W.codeIn K cd_sift_up "sift_up" = true)
    (k_sift_up : PySem.W.keepIn K (.ref f_sift_up) = true)
    {tk_sift_up : Tok}
    (w_sift_up : PySem.W.nsIn K D_sift_up "arms" = some (some (.int 2 tk_sift_up)))
    (a_sift_down : PySem.W.nsIn K mainGlobals "sift_down" = some (some (.ref f_sift_down)))
    (l_sift_down : K.lookup f_sift_down = some ⟨oc_sift_down, od_sift_down, .func (PySem.W.fnOf "sift_down" "sift_down" (defArgs s_sift_down) (defBody s_sift_down) (defScope s_sift_down) .none (.ref D_sift_down) dc_sift_down pm_sift_down an_sift_down cd_sift_down ct_sift_down), sl_sift_down⟩)
    (c_sift_down : PySem.W.codeIn K cd_sift_down "sift_down" = true)
    (k_sift_down : PySem.W.keepIn K (.ref f_sift_down) = true)
    {tk_sift_down : Tok}
    (w_sift_down : PySem.W.nsIn K D_sift_down "arms" = some (some (.int 2 tk_sift_down)))
    (a_least_child : PySem.W.nsIn K mainGlobals "least_child" = some (some (.ref f_least_child)))
    (l_least_child : K.lookup f_least_child = some ⟨oc_least_child, od_least_child, .func (PySem.W.fnOf "least_child" "least_child" (defArgs s_least_child) (defBody s_least_child) (defScope s_least_child) .none kV_least_child dc_least_child pm_least_child an_least_child (.ref cc_least_child) ct_least_child), sl_least_child⟩)
    (c_least_child : PySem.W.codeIn K (.ref cc_least_child) "least_child" = true)
    (k_least_child : PySem.W.keepIn K (.ref f_least_child) = true)
    (a_take : PySem.W.nsIn K mainGlobals "take" = some (some (.ref f_take)))
    (l_take : K.lookup f_take = some ⟨oc_take, od_take, .func (PySem.W.fnOf "take" "take" (defArgs s_take) (defBody s_take) (defScope s_take) .none (.ref D_take) dc_take pm_take an_take cd_take ct_take), sl_take⟩)
    (c_take : PySem.W.codeIn K cd_take "take" = true)
    (k_take : PySem.W.keepIn K (.ref f_take) = true)
    {tk_take : Tok}
    (w_take : PySem.W.nsIn K D_take "arms" = some (some (.int 2 tk_take)))
    (a_take_by_hole : PySem.W.nsIn K mainGlobals "take_by_hole" = some (some (.ref f_take_by_hole)))
    (l_take_by_hole : K.lookup f_take_by_hole = some ⟨oc_take_by_hole, od_take_by_hole, .func (PySem.W.fnOf "take_by_hole" "take_by_hole" (defArgs s_take_by_hole) (defBody s_take_by_hole) (defScope s_take_by_hole) .none (.ref D_take_by_hole) dc_take_by_hole pm_take_by_hole an_take_by_hole cd_take_by_hole ct_take_by_hole), sl_take_by_hole⟩)
    (c_take_by_hole : PySem.W.codeIn K cd_take_by_hole "take_by_hole" = true)
    (k_take_by_hole : PySem.W.keepIn K (.ref f_take_by_hole) = true)
    {tk_take_by_hole : Tok}
    (w_take_by_hole : PySem.W.nsIn K D_take_by_hole "arms" = some (some (.int 2 tk_take_by_hole)))
    (a_filled_heap_of : PySem.W.nsIn K mainGlobals "filled_heap_of" = some (some (.ref f_filled_heap_of)))
    (l_filled_heap_of : K.lookup f_filled_heap_of = some ⟨oc_filled_heap_of, od_filled_heap_of, .func (PySem.W.fnOf "filled_heap_of" "filled_heap_of" (defArgs s_filled_heap_of) (defBody s_filled_heap_of) (defScope s_filled_heap_of) .none kV_filled_heap_of dc_filled_heap_of pm_filled_heap_of an_filled_heap_of cd_filled_heap_of ct_filled_heap_of), sl_filled_heap_of⟩)
    (c_filled_heap_of : PySem.W.codeIn K cd_filled_heap_of "filled_heap_of" = true)
    (k_filled_heap_of : PySem.W.keepIn K (.ref f_filled_heap_of) = true)
    (a_check_filled : PySem.W.nsIn K mainGlobals "check_filled" = some (some (.ref f_check_filled)))
    (l_check_filled : K.lookup f_check_filled = some ⟨oc_check_filled, od_check_filled, .func (PySem.W.fnOf "check_filled" "check_filled" (defArgs s_check_filled) (defBody s_check_filled) (defScope s_check_filled) .none kV_check_filled dc_check_filled pm_check_filled an_check_filled cd_check_filled ct_check_filled), sl_check_filled⟩)
    (c_check_filled : PySem.W.codeIn K cd_check_filled "check_filled" = true)
    (k_check_filled : PySem.W.keepIn K (.ref f_check_filled) = true)
    (a_looks_of : PySem.W.nsIn K mainGlobals "looks_of" = some (some (.ref f_looks_of)))
    (l_looks_of : K.lookup f_looks_of = some ⟨oc_looks_of, od_looks_of, .func (PySem.W.fnOf "looks_of" "looks_of" (defArgs s_looks_of) (defBody s_looks_of) (defScope s_looks_of) .none (.ref D_looks_of) dc_looks_of pm_looks_of an_looks_of cd_looks_of ct_looks_of), sl_looks_of⟩)
    (c_looks_of : PySem.W.codeIn K cd_looks_of "looks_of" = true)
    (k_looks_of : PySem.W.keepIn K (.ref f_looks_of) = true)
    {tk_looks_of : Tok}
    (w_looks_of : PySem.W.nsIn K D_looks_of "arms" = some (some (.int 2 tk_looks_of)))
    (a_looks_over : PySem.W.nsIn K mainGlobals "looks_over" = some (some (.ref f_looks_over)))
    (l_looks_over : K.lookup f_looks_over = some ⟨oc_looks_over, od_looks_over, .func (PySem.W.fnOf "looks_over" "looks_over" (defArgs s_looks_over) (defBody s_looks_over) (defScope s_looks_over) .none (.ref D_looks_over) dc_looks_over pm_looks_over an_looks_over cd_looks_over ct_looks_over), sl_looks_over⟩)
    (c_looks_over : PySem.W.codeIn K cd_looks_over "looks_over" = true)
    (k_looks_over : PySem.W.keepIn K (.ref f_looks_over) = true)
    {tk_looks_over : Tok}
    (w_looks_over : PySem.W.nsIn K D_looks_over "arms" = some (some (.int 2 tk_looks_over)))
    (a__law_number : PySem.W.nsIn K mainGlobals "_law_number" = some (some (.ref f__law_number)))
    (l__law_number : K.lookup f__law_number = some ⟨oc__law_number, od__law_number, .func (PySem.W.fnOf "_law_number" "_law_number" (defArgs s__law_number) (defBody s__law_number) (defScope s__law_number) .none kV__law_number dc__law_number pm__law_number an__law_number cd__law_number ct__law_number), sl__law_number⟩)
    (c__law_number : PySem.W.codeIn K cd__law_number "_law_number" = true)
    (k__law_number : PySem.W.keepIn K (.ref f__law_number) = true)
    (a__law_take : PySem.W.nsIn K mainGlobals "_law_take" = some (some (.ref f__law_take)))
    (l__law_take : K.lookup f__law_take = some ⟨oc__law_take, od__law_take, .func (PySem.W.fnOf "_law_take" "_law_take" (defArgs s__law_take) (defBody s__law_take) (defScope s__law_take) .none kV__law_take dc__law_take pm__law_take an__law_take cd__law_take ct__law_take), sl__law_take⟩)
    (c__law_take : PySem.W.codeIn K cd__law_take "_law_take" = true)
    (k__law_take : PySem.W.keepIn K (.ref f__law_take) = true)
    (a__law_pick : PySem.W.nsIn K mainGlobals "_law_pick" = some (some (.ref f__law_pick)))
    (l__law_pick : K.lookup f__law_pick = some ⟨oc__law_pick, od__law_pick, .func (PySem.W.fnOf "_law_pick" "_law_pick" (defArgs s__law_pick) (defBody s__law_pick) (defScope s__law_pick) .none kV__law_pick dc__law_pick pm__law_pick an__law_pick cd__law_pick ct__law_pick), sl__law_pick⟩)
    (c__law_pick : PySem.W.codeIn K cd__law_pick "_law_pick" = true)
    (k__law_pick : PySem.W.keepIn K (.ref f__law_pick) = true)
    (a__law_parent : PySem.W.nsIn K mainGlobals "_law_parent" = some (some (.ref f__law_parent)))
    (l__law_parent : K.lookup f__law_parent = some ⟨oc__law_parent, od__law_parent, .func (PySem.W.fnOf "_law_parent" "_law_parent" (defArgs s__law_parent) (defBody s__law_parent) (defScope s__law_parent) .none kV__law_parent dc__law_parent pm__law_parent an__law_parent cd__law_parent ct__law_parent), sl__law_parent⟩)
    (c__law_parent : PySem.W.codeIn K cd__law_parent "_law_parent" = true)
    (k__law_parent : PySem.W.keepIn K (.ref f__law_parent) = true)
    (a__law_children : PySem.W.nsIn K mainGlobals "_law_children" = some (some (.ref f__law_children)))
    (l__law_children : K.lookup f__law_children = some ⟨oc__law_children, od__law_children, .func (PySem.W.fnOf "_law_children" "_law_children" (defArgs s__law_children) (defBody s__law_children) (defScope s__law_children) .none kV__law_children dc__law_children pm__law_children an__law_children cd__law_children ct__law_children), sl__law_children⟩)
    (c__law_children : PySem.W.codeIn K cd__law_children "_law_children" = true)
    (k__law_children : PySem.W.keepIn K (.ref f__law_children) = true)
    (a__law_way : PySem.W.nsIn K mainGlobals "_law_way" = some (some (.ref f__law_way)))
    (l__law_way : K.lookup f__law_way = some ⟨oc__law_way, od__law_way, .func (PySem.W.fnOf "_law_way" "_law_way" (defArgs s__law_way) (defBody s__law_way) (defScope s__law_way) .none kV__law_way dc__law_way pm__law_way an__law_way cd__law_way ct__law_way), sl__law_way⟩)
    (c__law_way : PySem.W.codeIn K cd__law_way "_law_way" = true)
    (k__law_way : PySem.W.keepIn K (.ref f__law_way) = true)
    (a__law_arms : PySem.W.nsIn K mainGlobals "_law_arms" = some (some (.ref f__law_arms)))
    (l__law_arms : K.lookup f__law_arms = some ⟨oc__law_arms, od__law_arms, .func (PySem.W.fnOf "_law_arms" "_law_arms" (defArgs s__law_arms) (defBody s__law_arms) (defScope s__law_arms) .none kV__law_arms dc__law_arms pm__law_arms an__law_arms cd__law_arms ct__law_arms), sl__law_arms⟩)
    (c__law_arms : PySem.W.codeIn K cd__law_arms "_law_arms" = true)
    (k__law_arms : PySem.W.keepIn K (.ref f__law_arms) = true)
    (a__law_keys : PySem.W.nsIn K mainGlobals "_law_keys" = some (some (.ref f__law_keys)))
    (l__law_keys : K.lookup f__law_keys = some ⟨oc__law_keys, od__law_keys, .func (PySem.W.fnOf "_law_keys" "_law_keys" (defArgs s__law_keys) (defBody s__law_keys) (defScope s__law_keys) .none kV__law_keys dc__law_keys pm__law_keys an__law_keys cd__law_keys ct__law_keys), sl__law_keys⟩)
    (c__law_keys : PySem.W.codeIn K cd__law_keys "_law_keys" = true)
    (k__law_keys : PySem.W.keepIn K (.ref f__law_keys) = true)
    (a__law_is_heap : PySem.W.nsIn K mainGlobals "_law_is_heap" = some (some (.ref f__law_is_heap)))
    (l__law_is_heap : K.lookup f__law_is_heap = some ⟨oc__law_is_heap, od__law_is_heap, .func (PySem.W.fnOf "_law_is_heap" "_law_is_heap" (defArgs s__law_is_heap) (defBody s__law_is_heap) (defScope s__law_is_heap) .none kV__law_is_heap dc__law_is_heap pm__law_is_heap an__law_is_heap cd__law_is_heap ct__law_is_heap), sl__law_is_heap⟩)
    (c__law_is_heap : PySem.W.codeIn K cd__law_is_heap "_law_is_heap" = true)
    (k__law_is_heap : PySem.W.keepIn K (.ref f__law_is_heap) = true)
    (a__law_lists : PySem.W.nsIn K mainGlobals "_law_lists" = some (some (.ref f__law_lists)))
    (l__law_lists : K.lookup f__law_lists = some ⟨oc__law_lists, od__law_lists, .func (PySem.W.fnOf "_law_lists" "_law_lists" (defArgs s__law_lists) (defBody s__law_lists) (defScope s__law_lists) .none kV__law_lists dc__law_lists pm__law_lists an__law_lists cd__law_lists ct__law_lists), sl__law_lists⟩)
    (c__law_lists : PySem.W.codeIn K cd__law_lists "_law_lists" = true)
    (k__law_lists : PySem.W.keepIn K (.ref f__law_lists) = true)
    (a__law_heaps : PySem.W.nsIn K mainGlobals "_law_heaps" = some (some (.ref f__law_heaps)))
    (l__law_heaps : K.lookup f__law_heaps = some ⟨oc__law_heaps, od__law_heaps, .func (PySem.W.fnOf "_law_heaps" "_law_heaps" (defArgs s__law_heaps) (defBody s__law_heaps) (defScope s__law_heaps) .none kV__law_heaps dc__law_heaps pm__law_heaps an__law_heaps cd__law_heaps ct__law_heaps), sl__law_heaps⟩)
    (c__law_heaps : PySem.W.codeIn K cd__law_heaps "_law_heaps" = true)
    (k__law_heaps : PySem.W.keepIn K (.ref f__law_heaps) = true)
    (a__law_heap : PySem.W.nsIn K mainGlobals "_law_heap" = some (some (.ref f__law_heap)))
    (l__law_heap : K.lookup f__law_heap = some ⟨oc__law_heap, od__law_heap, .func (PySem.W.fnOf "_law_heap" "_law_heap" (defArgs s__law_heap) (defBody s__law_heap) (defScope s__law_heap) .none kV__law_heap dc__law_heap pm__law_heap an__law_heap cd__law_heap ct__law_heap), sl__law_heap⟩)
    (c__law_heap : PySem.W.codeIn K cd__law_heap "_law_heap" = true)
    (k__law_heap : PySem.W.keepIn K (.ref f__law_heap) = true)
    (a__law_up : PySem.W.nsIn K mainGlobals "_law_up" = some (some (.ref f__law_up)))
    (l__law_up : K.lookup f__law_up = some ⟨oc__law_up, od__law_up, .func (PySem.W.fnOf "_law_up" "_law_up" (defArgs s__law_up) (defBody s__law_up) (defScope s__law_up) .none kV__law_up dc__law_up pm__law_up an__law_up cd__law_up ct__law_up), sl__law_up⟩)
    (c__law_up : PySem.W.codeIn K cd__law_up "_law_up" = true)
    (k__law_up : PySem.W.keepIn K (.ref f__law_up) = true)
    (a__law_down : PySem.W.nsIn K mainGlobals "_law_down" = some (some (.ref f__law_down)))
    (l__law_down : K.lookup f__law_down = some ⟨oc__law_down, od__law_down, .func (PySem.W.fnOf "_law_down" "_law_down" (defArgs s__law_down) (defBody s__law_down) (defScope s__law_down) .none kV__law_down dc__law_down pm__law_down an__law_down cd__law_down ct__law_down), sl__law_down⟩)
    (c__law_down : PySem.W.codeIn K cd__law_down "_law_down" = true)
    (k__law_down : PySem.W.keepIn K (.ref f__law_down) = true)
    (a__law_hole : PySem.W.nsIn K mainGlobals "_law_hole" = some (some (.ref f__law_hole)))
    (l__law_hole : K.lookup f__law_hole = some ⟨oc__law_hole, od__law_hole, .func (PySem.W.fnOf "_law_hole" "_law_hole" (defArgs s__law_hole) (defBody s__law_hole) (defScope s__law_hole) .none kV__law_hole dc__law_hole pm__law_hole an__law_hole cd__law_hole ct__law_hole), sl__law_hole⟩)
    (c__law_hole : PySem.W.codeIn K cd__law_hole "_law_hole" = true)
    (k__law_hole : PySem.W.keepIn K (.ref f__law_hole) = true)
    (a__law_out : PySem.W.nsIn K mainGlobals "_law_out" = some (some (.ref f__law_out)))
    (l__law_out : K.lookup f__law_out = some ⟨oc__law_out, od__law_out, .func (PySem.W.fnOf "_law_out" "_law_out" (defArgs s__law_out) (defBody s__law_out) (defScope s__law_out) .none kV__law_out dc__law_out pm__law_out an__law_out cd__law_out ct__law_out), sl__law_out⟩)
    (c__law_out : PySem.W.codeIn K cd__law_out "_law_out" = true)
    (k__law_out : PySem.W.keepIn K (.ref f__law_out) = true)
    (a__law_ways_to : PySem.W.nsIn K mainGlobals "_law_ways_to" = some (some (.ref f__law_ways_to)))
    (l__law_ways_to : K.lookup f__law_ways_to = some ⟨oc__law_ways_to, od__law_ways_to, .func (PySem.W.fnOf "_law_ways_to" "_law_ways_to" (defArgs s__law_ways_to) (defBody s__law_ways_to) (defScope s__law_ways_to) .none kV__law_ways_to dc__law_ways_to pm__law_ways_to an__law_ways_to cd__law_ways_to ct__law_ways_to), sl__law_ways_to⟩)
    (c__law_ways_to : PySem.W.codeIn K cd__law_ways_to "_law_ways_to" = true)
    (k__law_ways_to : PySem.W.keepIn K (.ref f__law_ways_to) = true)
    (a_law : PySem.W.nsIn K mainGlobals "law" = some (some (.ref f_law)))
    (l_law : K.lookup f_law = some ⟨oc_law, od_law, .func (PySem.W.fnOf "law" "law" (defArgs s_law) (defBody s_law) (defScope s_law) .none kV_law dc_law pm_law an_law cd_law ct_law), sl_law⟩)
    (c_law : PySem.W.codeIn K cd_law "law" = true)
    (k_law : PySem.W.keepIn K (.ref f_law) = true)
    {tc_MOST_ARMS : Tok}
    (q_MOST_ARMS : PySem.W.nsIn K mainGlobals "MOST_ARMS" = some (some (.int 4 tc_MOST_ARMS)))
    {tc_MOST_PLACES : Tok}
    (q_MOST_PLACES : PySem.W.nsIn K mainGlobals "MOST_PLACES" = some (some (.int 12 tc_MOST_PLACES)))
    {tc_GREATEST_KEY : Tok}
    (q_GREATEST_KEY : PySem.W.nsIn K mainGlobals "GREATEST_KEY" = some (some (.int 1000000000 tc_GREATEST_KEY)))
    {tc_MOST_KEYS : Tok}
    (q_MOST_KEYS : PySem.W.nsIn K mainGlobals "MOST_KEYS" = some (some (.int 8 tc_MOST_KEYS)))
    {tc_MOST_COUNTED : Tok}
    (q_MOST_COUNTED : PySem.W.nsIn K mainGlobals "MOST_COUNTED" = some (some (.int 8 tc_MOST_COUNTED)))
    (z_isinstance : PySem.W.nsIn K mainGlobals "isinstance" = some none)
    (z_int : PySem.W.nsIn K mainGlobals "int" = some none)
    (z_bool : PySem.W.nsIn K mainGlobals "bool" = some none)
    (z_len : PySem.W.nsIn K mainGlobals "len" = some none)
    (z_tuple : PySem.W.nsIn K mainGlobals "tuple" = some none)
    (z_list : PySem.W.nsIn K mainGlobals "list" = some none)
    (z_range : PySem.W.nsIn K mainGlobals "range" = some none)
    (z_enumerate : PySem.W.nsIn K mainGlobals "enumerate" = some none)
    (z_reversed : PySem.W.nsIn K mainGlobals "reversed" = some none)
    (z_min : PySem.W.nsIn K mainGlobals "min" = some none)
    (z_sum : PySem.W.nsIn K mainGlobals "sum" = some none)
    (z_iter : PySem.W.nsIn K mainGlobals "iter" = some none)
    (z_any : PySem.W.nsIn K mainGlobals "any" = some none)
    (z_sorted : PySem.W.nsIn K mainGlobals "sorted" = some none)
    (z_set : PySem.W.nsIn K mainGlobals "set" = some none)
    (pg : PySem.W.plainGet K C Str.empty = true)
    (hd : PySem.W.hasDictIn K C = true)
    (po_ : PySem.W.plainOver K C = true)
    (sa : PySem.W.findIn K (.ref C) "__setattr__" = some (some (.builtin "object.__setattr__")))
    (na_nMany : PySem.W.findIn K (.ref C) "many" = some none)
    (na_nArms : PySem.W.findIn K (.ref C) "arms" = some none)
    (na_nPl : PySem.W.findIn K (.ref C) "_places" = some none)
    (mk : PySem.W.makesIn K C = true)
    (kc : PySem.W.keepIn K (.ref C) = true)
    (rd : PySem.W.readsIn K C (.type "type") = true)
    (ga : PySem.W.specialIn K (.ref C) "__getattribute__" = some (some (.builtin "type.__getattribute__")))
    (pgS : PySem.W.plainGet K CS Str.empty = true)
    (hdS : PySem.W.hasDictIn K CS = true)
    (po_S : PySem.W.plainOver K CS = true)
    (saS : PySem.W.findIn K (.ref CS) "__setattr__" = some (some (.builtin "object.__setattr__")))
    (na_nRow : PySem.W.findIn K (.ref CS) "row" = some none)
    (na_nWay : PySem.W.findIn K (.ref CS) "way" = some none)
    (na_nLooks : PySem.W.findIn K (.ref CS) "looks" = some none)
    (mkS : PySem.W.makesIn K CS = true)
    (kcS : PySem.W.keepIn K (.ref CS) = true)
    (eneS : PySem.W.findIn K (.ref CS) "__ne__" = some (some (.builtin "object.__ne__")))
    (eobS : PySem.W.subIn K (.ref CS) (.type "object") = some true)
    (eniS : PySem.W.subIn K (.type "int") (.ref CS) = some false)
    (entS : PySem.W.subIn K (.type "tuple") (.ref CS) = some false)
    (kaS : PySem.W.findIn K (.ref CS) "__class__" = some (some (.builtin "object.__class__")))
    (knS : PySem.W.specialIn K (.builtin "object.__class__") "__get__" = some (some (.builtin "getset_descriptor.__get__")))
    (ktkS : PySem.W.takesIn K (.builtin "object.__class__") = some true)
    (kmS : PySem.W.mroIn K CS (.type "object") = some true)
    (kclS : PySem.W.isClsIn K CS = true)
    (ktyS : PySem.W.typeIn K (.ref CS) = some (.type "type"))
    (hT_least_child : h.get? PP_least_child = some (PySem.W.tabObj #[])) (hC_least_child : PySem.W.codeHdIn K cc_least_child PP_least_child = true) (hN_least_child : K.lookup PP_least_child = none)
    : LamX.LawAtS l w K CX0 13 63 "script" mg fa h := by
  have e := hfa.symm.trans (PySem.W.mg_of X G a_law)
  cases e
  let A : Ad := { f_is_integer := f_is_integer, d_is_integer := (PySem.W.fnOf "is_integer" "is_integer" (defArgs s_is_integer) (defBody s_is_integer) (defScope s_is_integer) .none kV_is_integer dc_is_integer pm_is_integer an_is_integer cd_is_integer ct_is_integer), f_is_integer_from := f_is_integer_from, d_is_integer_from := (PySem.W.fnOf "is_integer_from" "is_integer_from" (defArgs s_is_integer_from) (defBody s_is_integer_from) (defScope s_is_integer_from) .none kV_is_integer_from dc_is_integer_from pm_is_integer_from an_is_integer_from cd_is_integer_from ct_is_integer_from), f_is_key := f_is_key, d_is_key := (PySem.W.fnOf "is_key" "is_key" (defArgs s_is_key) (defBody s_is_key) (defScope s_is_key) .none kV_is_key dc_is_key pm_is_key an_is_key cd_is_key ct_is_key), f_check_arms := f_check_arms, d_check_arms := (PySem.W.fnOf "check_arms" "check_arms" (defArgs s_check_arms) (defBody s_check_arms) (defScope s_check_arms) .none kV_check_arms dc_check_arms pm_check_arms an_check_arms cd_check_arms ct_check_arms), f_check_many := f_check_many, d_check_many := (PySem.W.fnOf "check_many" "check_many" (defArgs s_check_many) (defBody s_check_many) (defScope s_check_many) .none kV_check_many dc_check_many pm_check_many an_check_many cd_check_many ct_check_many), f_check_place := f_check_place, d_check_place := (PySem.W.fnOf "check_place" "check_place" (defArgs s_check_place) (defBody s_check_place) (defScope s_check_place) .none kV_check_place dc_check_place pm_check_place an_check_place cd_check_place ct_check_place), f_check_few := f_check_few, d_check_few := (PySem.W.fnOf "check_few" "check_few" (defArgs s_check_few) (defBody s_check_few) (defScope s_check_few) .none kV_check_few dc_check_few pm_check_few an_check_few cd_check_few ct_check_few), f_row_of := f_row_of, d_row_of := (PySem.W.fnOf "row_of" "row_of" (defArgs s_row_of) (defBody s_row_of) (defScope s_row_of) .none kV_row_of dc_row_of pm_row_of an_row_of cd_row_of ct_row_of), f_t___init__ := f_t___init__, d_t___init__ := (PySem.W.fnOf "__init__" "Tree.__init__" (defArgs s_t___init__) (defBody s_t___init__) (defScope s_t___init__) .none (.ref D_t___init__) dc_t___init__ pm_t___init__ an_t___init__ cd_t___init__ ct_t___init__), f_t_of := f_t_of, d_t_of := (PySem.W.fnOf "of" "Tree.of" (defArgs s_t_of) (defBody s_t_of) (defScope s_t_of) .none (.ref D_t_of) dc_t_of pm_t_of an_t_of cd_t_of ct_t_of), f_t___len__ := f_t___len__, d_t___len__ := (PySem.W.fnOf "__len__" "Tree.__len__" (defArgs s_t___len__) (defBody s_t___len__) (defScope s_t___len__) .none kV_t___len__ dc_t___len__ pm_t___len__ an_t___len__ cd_t___len__ ct_t___len__), f_t___iter__ := f_t___iter__, d_t___iter__ := (PySem.W.fnOf "__iter__" "Tree.__iter__" (defArgs s_t___iter__) (defBody s_t___iter__) (defScope s_t___iter__) .none kV_t___iter__ dc_t___iter__ pm_t___iter__ an_t___iter__ cd_t___iter__ ct_t___iter__), f_t___getitem__ := f_t___getitem__, d_t___getitem__ := (PySem.W.fnOf "__getitem__" "Tree.__getitem__" (defArgs s_t___getitem__) (defBody s_t___getitem__) (defScope s_t___getitem__) .none kV_t___getitem__ dc_t___getitem__ pm_t___getitem__ an_t___getitem__ cd_t___getitem__ ct_t___getitem__), f_t_parent := f_t_parent, d_t_parent := (PySem.W.fnOf "parent" "Tree.parent" (defArgs s_t_parent) (defBody s_t_parent) (defScope s_t_parent) .none kV_t_parent dc_t_parent pm_t_parent an_t_parent cd_t_parent ct_t_parent), f_t_way_to := f_t_way_to, d_t_way_to := (PySem.W.fnOf "way_to" "Tree.way_to" (defArgs s_t_way_to) (defBody s_t_way_to) (defScope s_t_way_to) .none kV_t_way_to dc_t_way_to pm_t_way_to an_t_way_to cd_t_way_to ct_t_way_to), f_faults := f_faults, d_faults := (PySem.W.fnOf "faults" "faults" (defArgs s_faults) (defBody s_faults) (defScope s_faults) .none (.ref D_faults) dc_faults pm_faults an_faults cd_faults ct_faults), f_heap_of := f_heap_of, d_heap_of := (PySem.W.fnOf "heap_of" "heap_of" (defArgs s_heap_of) (defBody s_heap_of) (defScope s_heap_of) .none kV_heap_of dc_heap_of pm_heap_of an_heap_of cd_heap_of ct_heap_of), f_next_keys := f_next_keys, d_next_keys := (PySem.W.fnOf "next_keys" "next_keys" (defArgs s_next_keys) (defBody s_next_keys) (defScope s_next_keys) .none kV_next_keys dc_next_keys pm_next_keys an_next_keys cd_next_keys ct_next_keys), f_all_heaps := f_all_heaps, d_all_heaps := (PySem.W.fnOf "all_heaps" "all_heaps" (defArgs s_all_heaps) (defBody s_all_heaps) (defScope s_all_heaps) .none (.ref D_all_heaps) dc_all_heaps pm_all_heaps an_all_heaps cd_all_heaps ct_all_heaps), f_z___init__ := f_z___init__, d_z___init__ := (PySem.W.fnOf "__init__" "Sift.__init__" (defArgs s_z___init__) (defBody s_z___init__) (defScope s_z___init__) .none kV_z___init__ dc_z___init__ pm_z___init__ an_z___init__ cd_z___init__ ct_z___init__), f_z___eq__ := f_z___eq__, d_z___eq__ := (PySem.W.fnOf "__eq__" "Sift.__eq__" (defArgs s_z___eq__) (defBody s_z___eq__) (defScope s_z___eq__) .none kV_z___eq__ dc_z___eq__ pm_z___eq__ an_z___eq__ cd_z___eq__ ct_z___eq__), f_sift_up := f_sift_up, d_sift_up := (PySem.W.fnOf "sift_up" "sift_up" (defArgs s_sift_up) (defBody s_sift_up) (defScope s_sift_up) .none (.ref D_sift_up) dc_sift_up pm_sift_up an_sift_up cd_sift_up ct_sift_up), f_sift_down := f_sift_down, d_sift_down := (PySem.W.fnOf "sift_down" "sift_down" (defArgs s_sift_down) (defBody s_sift_down) (defScope s_sift_down) .none (.ref D_sift_down) dc_sift_down pm_sift_down an_sift_down cd_sift_down ct_sift_down), f_least_child := f_least_child, d_least_child := (PySem.W.fnOf "least_child" "least_child" (defArgs s_least_child) (defBody s_least_child) (defScope s_least_child) .none kV_least_child dc_least_child pm_least_child an_least_child (.ref cc_least_child) ct_least_child), f_take := f_take, d_take := (PySem.W.fnOf "take" "take" (defArgs s_take) (defBody s_take) (defScope s_take) .none (.ref D_take) dc_take pm_take an_take cd_take ct_take), f_take_by_hole := f_take_by_hole, d_take_by_hole := (PySem.W.fnOf "take_by_hole" "take_by_hole" (defArgs s_take_by_hole) (defBody s_take_by_hole) (defScope s_take_by_hole) .none (.ref D_take_by_hole) dc_take_by_hole pm_take_by_hole an_take_by_hole cd_take_by_hole ct_take_by_hole), f_filled_heap_of := f_filled_heap_of, d_filled_heap_of := (PySem.W.fnOf "filled_heap_of" "filled_heap_of" (defArgs s_filled_heap_of) (defBody s_filled_heap_of) (defScope s_filled_heap_of) .none kV_filled_heap_of dc_filled_heap_of pm_filled_heap_of an_filled_heap_of cd_filled_heap_of ct_filled_heap_of), f_check_filled := f_check_filled, d_check_filled := (PySem.W.fnOf "check_filled" "check_filled" (defArgs s_check_filled) (defBody s_check_filled) (defScope s_check_filled) .none kV_check_filled dc_check_filled pm_check_filled an_check_filled cd_check_filled ct_check_filled), f_looks_of := f_looks_of, d_looks_of := (PySem.W.fnOf "looks_of" "looks_of" (defArgs s_looks_of) (defBody s_looks_of) (defScope s_looks_of) .none (.ref D_looks_of) dc_looks_of pm_looks_of an_looks_of cd_looks_of ct_looks_of), f_looks_over := f_looks_over, d_looks_over := (PySem.W.fnOf "looks_over" "looks_over" (defArgs s_looks_over) (defBody s_looks_over) (defScope s_looks_over) .none (.ref D_looks_over) dc_looks_over pm_looks_over an_looks_over cd_looks_over ct_looks_over), f__law_number := f__law_number, d__law_number := (PySem.W.fnOf "_law_number" "_law_number" (defArgs s__law_number) (defBody s__law_number) (defScope s__law_number) .none kV__law_number dc__law_number pm__law_number an__law_number cd__law_number ct__law_number), f__law_take := f__law_take, d__law_take := (PySem.W.fnOf "_law_take" "_law_take" (defArgs s__law_take) (defBody s__law_take) (defScope s__law_take) .none kV__law_take dc__law_take pm__law_take an__law_take cd__law_take ct__law_take), f__law_pick := f__law_pick, d__law_pick := (PySem.W.fnOf "_law_pick" "_law_pick" (defArgs s__law_pick) (defBody s__law_pick) (defScope s__law_pick) .none kV__law_pick dc__law_pick pm__law_pick an__law_pick cd__law_pick ct__law_pick), f__law_parent := f__law_parent, d__law_parent := (PySem.W.fnOf "_law_parent" "_law_parent" (defArgs s__law_parent) (defBody s__law_parent) (defScope s__law_parent) .none kV__law_parent dc__law_parent pm__law_parent an__law_parent cd__law_parent ct__law_parent), f__law_children := f__law_children, d__law_children := (PySem.W.fnOf "_law_children" "_law_children" (defArgs s__law_children) (defBody s__law_children) (defScope s__law_children) .none kV__law_children dc__law_children pm__law_children an__law_children cd__law_children ct__law_children), f__law_way := f__law_way, d__law_way := (PySem.W.fnOf "_law_way" "_law_way" (defArgs s__law_way) (defBody s__law_way) (defScope s__law_way) .none kV__law_way dc__law_way pm__law_way an__law_way cd__law_way ct__law_way), f__law_arms := f__law_arms, d__law_arms := (PySem.W.fnOf "_law_arms" "_law_arms" (defArgs s__law_arms) (defBody s__law_arms) (defScope s__law_arms) .none kV__law_arms dc__law_arms pm__law_arms an__law_arms cd__law_arms ct__law_arms), f__law_keys := f__law_keys, d__law_keys := (PySem.W.fnOf "_law_keys" "_law_keys" (defArgs s__law_keys) (defBody s__law_keys) (defScope s__law_keys) .none kV__law_keys dc__law_keys pm__law_keys an__law_keys cd__law_keys ct__law_keys), f__law_is_heap := f__law_is_heap, d__law_is_heap := (PySem.W.fnOf "_law_is_heap" "_law_is_heap" (defArgs s__law_is_heap) (defBody s__law_is_heap) (defScope s__law_is_heap) .none kV__law_is_heap dc__law_is_heap pm__law_is_heap an__law_is_heap cd__law_is_heap ct__law_is_heap), f__law_lists := f__law_lists, d__law_lists := (PySem.W.fnOf "_law_lists" "_law_lists" (defArgs s__law_lists) (defBody s__law_lists) (defScope s__law_lists) .none kV__law_lists dc__law_lists pm__law_lists an__law_lists cd__law_lists ct__law_lists), f__law_heaps := f__law_heaps, d__law_heaps := (PySem.W.fnOf "_law_heaps" "_law_heaps" (defArgs s__law_heaps) (defBody s__law_heaps) (defScope s__law_heaps) .none kV__law_heaps dc__law_heaps pm__law_heaps an__law_heaps cd__law_heaps ct__law_heaps), f__law_heap := f__law_heap, d__law_heap := (PySem.W.fnOf "_law_heap" "_law_heap" (defArgs s__law_heap) (defBody s__law_heap) (defScope s__law_heap) .none kV__law_heap dc__law_heap pm__law_heap an__law_heap cd__law_heap ct__law_heap), f__law_up := f__law_up, d__law_up := (PySem.W.fnOf "_law_up" "_law_up" (defArgs s__law_up) (defBody s__law_up) (defScope s__law_up) .none kV__law_up dc__law_up pm__law_up an__law_up cd__law_up ct__law_up), f__law_down := f__law_down, d__law_down := (PySem.W.fnOf "_law_down" "_law_down" (defArgs s__law_down) (defBody s__law_down) (defScope s__law_down) .none kV__law_down dc__law_down pm__law_down an__law_down cd__law_down ct__law_down), f__law_hole := f__law_hole, d__law_hole := (PySem.W.fnOf "_law_hole" "_law_hole" (defArgs s__law_hole) (defBody s__law_hole) (defScope s__law_hole) .none kV__law_hole dc__law_hole pm__law_hole an__law_hole cd__law_hole ct__law_hole), f__law_out := f__law_out, d__law_out := (PySem.W.fnOf "_law_out" "_law_out" (defArgs s__law_out) (defBody s__law_out) (defScope s__law_out) .none kV__law_out dc__law_out pm__law_out an__law_out cd__law_out ct__law_out), f__law_ways_to := f__law_ways_to, d__law_ways_to := (PySem.W.fnOf "_law_ways_to" "_law_ways_to" (defArgs s__law_ways_to) (defBody s__law_ways_to) (defScope s__law_ways_to) .none kV__law_ways_to dc__law_ways_to pm__law_ways_to an__law_ways_to cd__law_ways_to ct__law_ways_to), f_law := fa, d_law := (PySem.W.fnOf "law" "law" (defArgs s_law) (defBody s_law) (defScope s_law) .none kV_law dc_law pm_law an_law cd_law ct_law), C := C, CS := CS, po := po, c_least_child := cc_least_child, P_least_child := PP_least_child }
  have T : Tx K mg A := {
    F_is_integer := (fun_mk (st := s_is_integer) l_is_integer c_is_integer k_is_integer)
    m_is_integer := PySem.W.mg_of X G a_is_integer
    F_is_integer_from := (fun_mk (st := s_is_integer_from) l_is_integer_from c_is_integer_from k_is_integer_from)
    m_is_integer_from := PySem.W.mg_of X G a_is_integer_from
    F_is_key := (fun_mk (st := s_is_key) l_is_key c_is_key k_is_key)
    m_is_key := PySem.W.mg_of X G a_is_key
    F_check_arms := (fun_mk (st := s_check_arms) l_check_arms c_check_arms k_check_arms)
    m_check_arms := PySem.W.mg_of X G a_check_arms
    F_check_many := (fun_mk (st := s_check_many) l_check_many c_check_many k_check_many)
    m_check_many := PySem.W.mg_of X G a_check_many
    F_check_place := (fun_mk (st := s_check_place) l_check_place c_check_place k_check_place)
    m_check_place := PySem.W.mg_of X G a_check_place
    F_check_few := (fun_mk (st := s_check_few) l_check_few c_check_few k_check_few)
    m_check_few := PySem.W.mg_of X G a_check_few
    F_row_of := (fun_mk (st := s_row_of) l_row_of c_row_of k_row_of)
    m_row_of := PySem.W.mg_of X G a_row_of
    F_t___init__ := ⟨⟨_, _, _, _, _, _, _, _, _, _, rfl, l_t___init__, c_t___init__, .inl ⟨rfl, rfl⟩, .inr ⟨_, rfl, fun q hq => by rw [List.mem_singleton.mp hq]; exact ⟨_, w_t___init__, relI _ _⟩⟩⟩, k_t___init__⟩
    F_t_of := ⟨⟨_, _, _, _, _, _, _, _, _, _, rfl, l_t_of, c_t_of, .inl ⟨rfl, rfl⟩, .inr ⟨_, rfl, fun q hq => by rw [List.mem_singleton.mp hq]; exact ⟨_, w_t_of, relI _ _⟩⟩⟩, k_t_of⟩
    F_t___len__ := (fun_mk (st := s_t___len__) l_t___len__ c_t___len__ k_t___len__)
    D_t___len__ := ⟨a_t___len__, i_t___len__, n_t___len__⟩
    F_t___iter__ := (fun_mk (st := s_t___iter__) l_t___iter__ c_t___iter__ k_t___iter__)
    D_t___iter__ := ⟨a_t___iter__, i_t___iter__, n_t___iter__⟩
    F_t___getitem__ := (fun_mk (st := s_t___getitem__) l_t___getitem__ c_t___getitem__ k_t___getitem__)
    D_t___getitem__ := ⟨a_t___getitem__, i_t___getitem__, n_t___getitem__⟩
    F_t_parent := (fun_mk (st := s_t_parent) l_t_parent c_t_parent k_t_parent)
    M_t_parent := ⟨a_t_parent, i_t_parent, k_t_parent⟩
    F_t_way_to := (fun_mk (st := s_t_way_to) l_t_way_to c_t_way_to k_t_way_to)
    M_t_way_to := ⟨a_t_way_to, i_t_way_to, k_t_way_to⟩
    F_faults := ⟨⟨_, _, _, _, _, _, _, _, _, _, rfl, l_faults, c_faults, .inl ⟨rfl, rfl⟩, .inr ⟨_, rfl, fun q hq => by rw [List.mem_singleton.mp hq]; exact ⟨_, w_faults, relI _ _⟩⟩⟩, k_faults⟩
    m_faults := PySem.W.mg_of X G a_faults
    F_heap_of := (fun_mk (st := s_heap_of) l_heap_of c_heap_of k_heap_of)
    m_heap_of := PySem.W.mg_of X G a_heap_of
    F_next_keys := (fun_mk (st := s_next_keys) l_next_keys c_next_keys k_next_keys)
    m_next_keys := PySem.W.mg_of X G a_next_keys
    F_all_heaps := ⟨⟨_, _, _, _, _, _, _, _, _, _, rfl, l_all_heaps, c_all_heaps, .inl ⟨rfl, rfl⟩, .inr ⟨_, rfl, fun q hq => by rw [List.mem_singleton.mp hq]; exact ⟨_, w_all_heaps, relI _ _⟩⟩⟩, k_all_heaps⟩
    m_all_heaps := PySem.W.mg_of X G a_all_heaps
    F_z___init__ := (fun_mk (st := s_z___init__) l_z___init__ c_z___init__ k_z___init__)
    F_z___eq__ := (fun_mk (st := s_z___eq__) l_z___eq__ c_z___eq__ k_z___eq__)
    F_sift_up := ⟨⟨_, _, _, _, _, _, _, _, _, _, rfl, l_sift_up, c_sift_up, .inl ⟨rfl, rfl⟩, .inr ⟨_, rfl, fun q hq => by rw [List.mem_singleton.mp hq]; exact ⟨_, w_sift_up, relI _ _⟩⟩⟩, k_sift_up⟩
    m_sift_up := PySem.W.mg_of X G a_sift_up
    F_sift_down := ⟨⟨_, _, _, _, _, _, _, _, _, _, rfl, l_sift_down, c_sift_down, .inl ⟨rfl, rfl⟩, .inr ⟨_, rfl, fun q hq => by rw [List.mem_singleton.mp hq]; exact ⟨_, w_sift_down, relI _ _⟩⟩⟩, k_sift_down⟩
    m_sift_down := PySem.W.mg_of X G a_sift_down
    L_least_child := ⟨_, _, _, _, _, _, _, _, rfl, l_least_child, c_least_child⟩
    F_least_child := (fun_mk (st := s_least_child) l_least_child c_least_child k_least_child)
    m_least_child := PySem.W.mg_of X G a_least_child
    F_take := ⟨⟨_, _, _, _, _, _, _, _, _, _, rfl, l_take, c_take, .inl ⟨rfl, rfl⟩, .inr ⟨_, rfl, fun q hq => by rw [List.mem_singleton.mp hq]; exact ⟨_, w_take, relI _ _⟩⟩⟩, k_take⟩
    m_take := PySem.W.mg_of X G a_take
    F_take_by_hole := ⟨⟨_, _, _, _, _, _, _, _, _, _, rfl, l_take_by_hole, c_take_by_hole, .inl ⟨rfl, rfl⟩, .inr ⟨_, rfl, fun q hq => by rw [List.mem_singleton.mp hq]; exact ⟨_, w_take_by_hole, relI _ _⟩⟩⟩, k_take_by_hole⟩
    m_take_by_hole := PySem.W.mg_of X G a_take_by_hole
    F_filled_heap_of := (fun_mk (st := s_filled_heap_of) l_filled_heap_of c_filled_heap_of k_filled_heap_of)
    m_filled_heap_of := PySem.W.mg_of X G a_filled_heap_of
    F_check_filled := (fun_mk (st := s_check_filled) l_check_filled c_check_filled k_check_filled)
    m_check_filled := PySem.W.mg_of X G a_check_filled
    F_looks_of := ⟨⟨_, _, _, _, _, _, _, _, _, _, rfl, l_looks_of, c_looks_of, .inl ⟨rfl, rfl⟩, .inr ⟨_, rfl, fun q hq => by rw [List.mem_singleton.mp hq]; exact ⟨_, w_looks_of, relI _ _⟩⟩⟩, k_looks_of⟩
    m_looks_of := PySem.W.mg_of X G a_looks_of
    F_looks_over := ⟨⟨_, _, _, _, _, _, _, _, _, _, rfl, l_looks_over, c_looks_over, .inl ⟨rfl, rfl⟩, .inr ⟨_, rfl, fun q hq => by rw [List.mem_singleton.mp hq]; exact ⟨_, w_looks_over, relI _ _⟩⟩⟩, k_looks_over⟩
    m_looks_over := PySem.W.mg_of X G a_looks_over
    F__law_number := (fun_mk (st := s__law_number) l__law_number c__law_number k__law_number)
    m__law_number := PySem.W.mg_of X G a__law_number
    F__law_take := (fun_mk (st := s__law_take) l__law_take c__law_take k__law_take)
    m__law_take := PySem.W.mg_of X G a__law_take
    F__law_pick := (fun_mk (st := s__law_pick) l__law_pick c__law_pick k__law_pick)
    m__law_pick := PySem.W.mg_of X G a__law_pick
    F__law_parent := (fun_mk (st := s__law_parent) l__law_parent c__law_parent k__law_parent)
    m__law_parent := PySem.W.mg_of X G a__law_parent
    F__law_children := (fun_mk (st := s__law_children) l__law_children c__law_children k__law_children)
    m__law_children := PySem.W.mg_of X G a__law_children
    F__law_way := (fun_mk (st := s__law_way) l__law_way c__law_way k__law_way)
    m__law_way := PySem.W.mg_of X G a__law_way
    F__law_arms := (fun_mk (st := s__law_arms) l__law_arms c__law_arms k__law_arms)
    m__law_arms := PySem.W.mg_of X G a__law_arms
    F__law_keys := (fun_mk (st := s__law_keys) l__law_keys c__law_keys k__law_keys)
    m__law_keys := PySem.W.mg_of X G a__law_keys
    F__law_is_heap := (fun_mk (st := s__law_is_heap) l__law_is_heap c__law_is_heap k__law_is_heap)
    m__law_is_heap := PySem.W.mg_of X G a__law_is_heap
    F__law_lists := (fun_mk (st := s__law_lists) l__law_lists c__law_lists k__law_lists)
    m__law_lists := PySem.W.mg_of X G a__law_lists
    F__law_heaps := (fun_mk (st := s__law_heaps) l__law_heaps c__law_heaps k__law_heaps)
    m__law_heaps := PySem.W.mg_of X G a__law_heaps
    F__law_heap := (fun_mk (st := s__law_heap) l__law_heap c__law_heap k__law_heap)
    m__law_heap := PySem.W.mg_of X G a__law_heap
    F__law_up := (fun_mk (st := s__law_up) l__law_up c__law_up k__law_up)
    m__law_up := PySem.W.mg_of X G a__law_up
    F__law_down := (fun_mk (st := s__law_down) l__law_down c__law_down k__law_down)
    m__law_down := PySem.W.mg_of X G a__law_down
    F__law_hole := (fun_mk (st := s__law_hole) l__law_hole c__law_hole k__law_hole)
    m__law_hole := PySem.W.mg_of X G a__law_hole
    F__law_out := (fun_mk (st := s__law_out) l__law_out c__law_out k__law_out)
    m__law_out := PySem.W.mg_of X G a__law_out
    F__law_ways_to := (fun_mk (st := s__law_ways_to) l__law_ways_to c__law_ways_to k__law_ways_to)
    m__law_ways_to := PySem.W.mg_of X G a__law_ways_to
    F_law := (fun_mk (st := s_law) l_law c_law k_law)
    m_law := PySem.W.mg_of X G a_law
    c_MOST_ARMS := .inr ⟨_, PySem.W.mg_of X G q_MOST_ARMS⟩
    c_MOST_PLACES := .inr ⟨_, PySem.W.mg_of X G q_MOST_PLACES⟩
    c_GREATEST_KEY := .inr ⟨_, PySem.W.mg_of X G q_GREATEST_KEY⟩
    c_MOST_KEYS := .inr ⟨_, PySem.W.mg_of X G q_MOST_KEYS⟩
    c_MOST_COUNTED := .inr ⟨_, PySem.W.mg_of X G q_MOST_COUNTED⟩
    g_isinstance := PySem.W.mg_none_of X G z_isinstance
    g_int := PySem.W.mg_none_of X G z_int
    g_bool := PySem.W.mg_none_of X G z_bool
    g_len := PySem.W.mg_none_of X G z_len
    g_tuple := PySem.W.mg_none_of X G z_tuple
    g_list := PySem.W.mg_none_of X G z_list
    g_range := PySem.W.mg_none_of X G z_range
    g_enumerate := PySem.W.mg_none_of X G z_enumerate
    g_reversed := PySem.W.mg_none_of X G z_reversed
    g_min := PySem.W.mg_none_of X G z_min
    g_sum := PySem.W.mg_none_of X G z_sum
    g_iter := PySem.W.mg_none_of X G z_iter
    g_any := PySem.W.mg_none_of X G z_any
    g_sorted := PySem.W.mg_none_of X G z_sorted
    g_set := PySem.W.mg_none_of X G z_set
    cT := ⟨pg, hd, po_, sa⟩
    nMany := na_nMany
    nArms := na_nArms
    nPl := na_nPl
    mC := PySem.W.mg_of X G aC
    mkC := ⟨mk, a_t___init__, i_t___init__, kc⟩
    cr := ⟨rd, ga⟩
    cof := ⟨a_t_of, ⟨_, r_t_of⟩, n_t_of⟩
    cTS := ⟨pgS, hdS, po_S, saS⟩
    nRow := na_nRow
    nWay := na_nWay
    nLooks := na_nLooks
    mCS := PySem.W.mg_of X G aCS
    mkCS := ⟨mkS, a_z___init__, i_z___init__, kcS⟩
    eqcS := ⟨a_z___eq__, i_z___eq__, eneS, eobS, eniS, entS⟩
    kaS := kaS
    knS := knS
    ktkS := ktkS
    kmS := kmS
    kiS_int := kit_no kclS ktyS eniS
    kiS_tuple := kit_no kclS ktyS entS
  }
  refine ⟨A.d_law, [(cc_least_child, PP_least_child)], spLaw K A, fun p hp => by
    simp only [List.mem_cons, List.not_mem_nil, or_false] at hp
    rcases hp with rfl
    · exact hT_least_child, ?_, ?_, fun s v => .of_eq rfl, fun H a ns hl hb hH hS => ⟨a, ns, rfl, hS, hl, fun p hp => ?_, fun _ => rfl⟩, fun base _ _ hTB => ok_law T (hTB (cc_least_child, PP_least_child) (by simp))⟩
  · exact fun p hp => by
      simp only [List.mem_cons, List.not_mem_nil, or_false] at hp
      rcases hp with rfl
      · exact hN_least_child
  · exact fun p hp => by
      simp only [List.mem_cons, List.not_mem_nil, or_false] at hp
      rcases hp with rfl
      · exact PySem.W.codeHd_of_K X hC_least_child
  · unfold TT at hp
    simp only [List.mem_cons, List.not_mem_nil, or_false] at hp
    rcases hp with rfl
    · exact LamX.TabS.nil (hH (cc_least_child, PP_least_child) (by simp))
theorem walk {l : PySem.W.OpenLaw} {q : Program} {loose : List Str} {XP : (Str → Option Value) → Heap → Prop} {YP : World → Heap → Prop} {d : DefRec} {K : Params → PySem.W.Frag} (hn : l.most = some 63) (hdf : d.params.defaults = [])
    (hY : ∀ (w : World) (h : Heap), YP w h → (K w.params).In h)
    (F : ∀ (w : World) (mg : Str → Option Value) (fa : Addr) (h : Heap), YP w h → (K w.params).In h → h.Ns mainGlobals mg → mg d.name = some (.ref fa) → LamX.LawAtS l w (K w.params) CX0 13 63 "script" mg fa h) :
    PySem.W.WalkO q loose XP YP l.row.toRowW d [] (fun f vs => PySem.call f vs) :=
  LamX.walk_ofTs (n := 63) (k := 13) (x := "script") (CX := fun _ => CX0) hn (by decide) hdf ⟨rfl, by decide, by decide⟩ hY F fun _ _ _ _ _ z => z
end Tw

open PySem PySem.W PyProof.Rows in
set_option maxRecDepth 100000 in
set_option maxHeartbeats 0 in
theorem PySem.Challenge.cw_heaprows_k26_whole_looks_holds : PySem.Challenge.rw_heaprows_k26_whole_looks.Holds := by
  w_on; o_law; k_head; (case hw => w_witness2)
  k_fill
  refine Tw.walk (l := PySem.Challenge.rw_heaprows_k26_whole_looks) rfl rfl (fun w h Y => PySem.W.km_in_of Y) ?F
  case F =>
    intro w mg fa h Y KX G hmg
    have hT8 := PySem.W.km_tabs_of Y
    refine' Tw.all_mk KX G hmg ?aC ?aCS ?a_is_integer ?l_is_integer ?c_is_integer ?k_is_integer ?a_is_integer_from ?l_is_integer_from ?c_is_integer_from ?k_is_integer_from ?a_is_key ?l_is_key ?c_is_key ?k_is_key ?a_check_arms ?l_check_arms ?c_check_arms ?k_check_arms ?a_check_many ?l_check_many ?c_check_many ?k_check_many ?a_check_place ?l_check_place ?c_check_place ?k_check_place ?a_check_few ?l_check_few ?c_check_few ?k_check_few ?a_row_of ?l_row_of ?c_row_of ?k_row_of ?a_t___init__ ?i_t___init__ ?l_t___init__ ?c_t___init__ ?k_t___init__ ?w_t___init__ ?a_t_of ?r_t_of ?n_t_of ?l_t_of ?c_t_of ?k_t_of ?w_t_of ?a_t___len__ ?i_t___len__ ?n_t___len__ ?l_t___len__ ?c_t___len__ ?k_t___len__ ?a_t___iter__ ?i_t___iter__ ?n_t___iter__ ?l_t___iter__ ?c_t___iter__ ?k_t___iter__ ?a_t___getitem__ ?i_t___getitem__ ?n_t___getitem__ ?l_t___getitem__ ?c_t___getitem__ ?k_t___getitem__ ?a_t_parent ?i_t_parent ?l_t_parent ?c_t_parent ?k_t_parent ?a_t_way_to ?i_t_way_to ?l_t_way_to ?c_t_way_to ?k_t_way_to ?a_faults ?l_faults ?c_faults ?k_faults ?w_faults ?a_heap_of ?l_heap_of ?c_heap_of ?k_heap_of ?a_next_keys ?l_next_keys ?c_next_keys ?k_next_keys ?a_all_heaps ?l_all_heaps ?c_all_heaps ?k_all_heaps ?w_all_heaps ?a_z___init__ ?i_z___init__ ?l_z___init__ ?c_z___init__ ?k_z___init__ ?a_z___eq__ ?i_z___eq__ ?l_z___eq__ ?c_z___eq__ ?k_z___eq__ ?a_sift_up ?l_sift_up ?c_sift_up ?k_sift_up ?w_sift_up ?a_sift_down ?l_sift_down ?c_sift_down ?k_sift_down ?w_sift_down ?a_least_child ?l_least_child ?c_least_child ?k_least_child ?a_take ?l_take ?c_take ?k_take ?w_take ?a_take_by_hole ?l_take_by_hole ?c_take_by_hole ?k_take_by_hole ?w_take_by_hole ?a_filled_heap_of ?l_filled_heap_of ?c_filled_heap_of ?k_filled_heap_of ?a_check_filled ?l_check_filled ?c_check_filled ?k_check_filled ?a_looks_of ?l_looks_of ?c_looks_of ?k_looks_of ?w_looks_of ?a_looks_over ?l_looks_over ?c_looks_over ?k_looks_over ?w_looks_over ?a__law_number ?l__law_number ?c__law_number ?k__law_number ?a__law_take ?l__law_take ?c__law_take ?k__law_take ?a__law_pick ?l__law_pick ?c__law_pick ?k__law_pick ?a__law_parent ?l__law_parent ?c__law_parent ?k__law_parent ?a__law_children ?l__law_children ?c__law_children ?k__law_children ?a__law_way ?l__law_way ?c__law_way ?k__law_way ?a__law_arms ?l__law_arms ?c__law_arms ?k__law_arms ?a__law_keys ?l__law_keys ?c__law_keys ?k__law_keys ?a__law_is_heap ?l__law_is_heap ?c__law_is_heap ?k__law_is_heap ?a__law_lists ?l__law_lists ?c__law_lists ?k__law_lists ?a__law_heaps ?l__law_heaps ?c__law_heaps ?k__law_heaps ?a__law_heap ?l__law_heap ?c__law_heap ?k__law_heap ?a__law_up ?l__law_up ?c__law_up ?k__law_up ?a__law_down ?l__law_down ?c__law_down ?k__law_down ?a__law_hole ?l__law_hole ?c__law_hole ?k__law_hole ?a__law_out ?l__law_out ?c__law_out ?k__law_out ?a__law_ways_to ?l__law_ways_to ?c__law_ways_to ?k__law_ways_to ?a_law ?l_law ?c_law ?k_law ?q_MOST_ARMS ?q_MOST_PLACES ?q_GREATEST_KEY ?q_MOST_KEYS ?q_MOST_COUNTED ?z_isinstance ?z_int ?z_bool ?z_len ?z_tuple ?z_list ?z_range ?z_enumerate ?z_reversed ?z_min ?z_sum ?z_iter ?z_any ?z_sorted ?z_set ?pg ?hd ?po_ ?sa ?na_nMany ?na_nArms ?na_nPl ?mk ?kc ?rd ?ga ?pgS ?hdS ?po_S ?saS ?na_nRow ?na_nWay ?na_nLooks ?mkS ?kcS ?eneS ?eobS ?eniS ?entS ?kaS ?knS ?ktkS ?kmS ?kclS ?ktyS (hT8 _ (.head _)) (by kernel_rfl) (by kernel_rfl)
    (case aC => k_is)
    (case aCS => k_is)
    (case a_is_integer => k_is)
    (case l_is_integer => k_is)
    (case c_is_integer => k_is)
    (case k_is_integer => k_is)
    (case a_is_integer_from => k_is)
    (case l_is_integer_from => k_is)
    (case c_is_integer_from => k_is)
    (case k_is_integer_from => k_is)
    (case a_is_key => k_is)
    (case l_is_key => k_is)
    (case c_is_key => k_is)
    (case k_is_key => k_is)
    (case a_check_arms => k_is)
    (case l_check_arms => k_is)
    (case c_check_arms => k_is)
    (case k_check_arms => k_is)
    (case a_check_many => k_is)
    (case l_check_many => k_is)
    (case c_check_many => k_is)
    (case k_check_many => k_is)
    (case a_check_place => k_is)
    (case l_check_place => k_is)
    (case c_check_place => k_is)
    (case k_check_place => k_is)
    (case a_check_few => k_is)
    (case l_check_few => k_is)
    (case c_check_few => k_is)
    (case k_check_few => k_is)
    (case a_row_of => k_is)
    (case l_row_of => k_is)
    (case c_row_of => k_is)
    (case k_row_of => k_is)
    (case a_t___init__ => k_is)
    (case i_t___init__ => k_is)
    (case l_t___init__ => k_is)
    (case c_t___init__ => k_is)
    (case k_t___init__ => k_is)
    (case w_t___init__ => k_is)
    (case a_t_of => k_is)
    (case r_t_of => k_is)
    (case n_t_of => k_is)
    (case l_t_of => k_is)
    (case c_t_of => k_is)
    (case k_t_of => k_is)
    (case w_t_of => k_is)
    (case a_t___len__ => k_is)
    (case i_t___len__ => k_is)
    (case n_t___len__ => k_is)
    (case l_t___len__ => k_is)
    (case c_t___len__ => k_is)
    (case k_t___len__ => k_is)
    (case a_t___iter__ => k_is)
    (case i_t___iter__ => k_is)
    (case n_t___iter__ => k_is)
    (case l_t___iter__ => k_is)
    (case c_t___iter__ => k_is)
    (case k_t___iter__ => k_is)
    (case a_t___getitem__ => k_is)
    (case i_t___getitem__ => k_is)
    (case n_t___getitem__ => k_is)
    (case l_t___getitem__ => k_is)
    (case c_t___getitem__ => k_is)
    (case k_t___getitem__ => k_is)
    (case a_t_parent => k_is)
    (case i_t_parent => k_is)
    (case l_t_parent => k_is)
    (case c_t_parent => k_is)
    (case k_t_parent => k_is)
    (case a_t_way_to => k_is)
    (case i_t_way_to => k_is)
    (case l_t_way_to => k_is)
    (case c_t_way_to => k_is)
    (case k_t_way_to => k_is)
    (case a_faults => k_is)
    (case l_faults => k_is)
    (case c_faults => k_is)
    (case k_faults => k_is)
    (case w_faults => k_is)
    (case a_heap_of => k_is)
    (case l_heap_of => k_is)
    (case c_heap_of => k_is)
    (case k_heap_of => k_is)
    (case a_next_keys => k_is)
    (case l_next_keys => k_is)
    (case c_next_keys => k_is)
    (case k_next_keys => k_is)
    (case a_all_heaps => k_is)
    (case l_all_heaps => k_is)
    (case c_all_heaps => k_is)
    (case k_all_heaps => k_is)
    (case w_all_heaps => k_is)
    (case a_z___init__ => k_is)
    (case i_z___init__ => k_is)
    (case l_z___init__ => k_is)
    (case c_z___init__ => k_is)
    (case k_z___init__ => k_is)
    (case a_z___eq__ => k_is)
    (case i_z___eq__ => k_is)
    (case l_z___eq__ => k_is)
    (case c_z___eq__ => k_is)
    (case k_z___eq__ => k_is)
    (case a_sift_up => k_is)
    (case l_sift_up => k_is)
    (case c_sift_up => k_is)
    (case k_sift_up => k_is)
    (case w_sift_up => k_is)
    (case a_sift_down => k_is)
    (case l_sift_down => k_is)
    (case c_sift_down => k_is)
    (case k_sift_down => k_is)
    (case w_sift_down => k_is)
    (case a_least_child => k_is)
    (case l_least_child => k_is)
    (case c_least_child => k_is)
    (case k_least_child => k_is)
    (case a_take => k_is)
    (case l_take => k_is)
    (case c_take => k_is)
    (case k_take => k_is)
    (case w_take => k_is)
    (case a_take_by_hole => k_is)
    (case l_take_by_hole => k_is)
    (case c_take_by_hole => k_is)
    (case k_take_by_hole => k_is)
    (case w_take_by_hole => k_is)
    (case a_filled_heap_of => k_is)
    (case l_filled_heap_of => k_is)
    (case c_filled_heap_of => k_is)
    (case k_filled_heap_of => k_is)
    (case a_check_filled => k_is)
    (case l_check_filled => k_is)
    (case c_check_filled => k_is)
    (case k_check_filled => k_is)
    (case a_looks_of => k_is)
    (case l_looks_of => k_is)
    (case c_looks_of => k_is)
    (case k_looks_of => k_is)
    (case w_looks_of => k_is)
    (case a_looks_over => k_is)
    (case l_looks_over => k_is)
    (case c_looks_over => k_is)
    (case k_looks_over => k_is)
    (case w_looks_over => k_is)
    (case a__law_number => k_is)
    (case l__law_number => k_is)
    (case c__law_number => k_is)
    (case k__law_number => k_is)
    (case a__law_take => k_is)
    (case l__law_take => k_is)
    (case c__law_take => k_is)
    (case k__law_take => k_is)
    (case a__law_pick => k_is)
    (case l__law_pick => k_is)
    (case c__law_pick => k_is)
    (case k__law_pick => k_is)
    (case a__law_parent => k_is)
    (case l__law_parent => k_is)
    (case c__law_parent => k_is)
    (case k__law_parent => k_is)
    (case a__law_children => k_is)
    (case l__law_children => k_is)
    (case c__law_children => k_is)
    (case k__law_children => k_is)
    (case a__law_way => k_is)
    (case l__law_way => k_is)
    (case c__law_way => k_is)
    (case k__law_way => k_is)
    (case a__law_arms => k_is)
    (case l__law_arms => k_is)
    (case c__law_arms => k_is)
    (case k__law_arms => k_is)
    (case a__law_keys => k_is)
    (case l__law_keys => k_is)
    (case c__law_keys => k_is)
    (case k__law_keys => k_is)
    (case a__law_is_heap => k_is)
    (case l__law_is_heap => k_is)
    (case c__law_is_heap => k_is)
    (case k__law_is_heap => k_is)
    (case a__law_lists => k_is)
    (case l__law_lists => k_is)
    (case c__law_lists => k_is)
    (case k__law_lists => k_is)
    (case a__law_heaps => k_is)
    (case l__law_heaps => k_is)
    (case c__law_heaps => k_is)
    (case k__law_heaps => k_is)
    (case a__law_heap => k_is)
    (case l__law_heap => k_is)
    (case c__law_heap => k_is)
    (case k__law_heap => k_is)
    (case a__law_up => k_is)
    (case l__law_up => k_is)
    (case c__law_up => k_is)
    (case k__law_up => k_is)
    (case a__law_down => k_is)
    (case l__law_down => k_is)
    (case c__law_down => k_is)
    (case k__law_down => k_is)
    (case a__law_hole => k_is)
    (case l__law_hole => k_is)
    (case c__law_hole => k_is)
    (case k__law_hole => k_is)
    (case a__law_out => k_is)
    (case l__law_out => k_is)
    (case c__law_out => k_is)
    (case k__law_out => k_is)
    (case a__law_ways_to => k_is)
    (case l__law_ways_to => k_is)
    (case c__law_ways_to => k_is)
    (case k__law_ways_to => k_is)
    (case a_law => k_is)
    (case l_law => k_is)
    (case c_law => k_is)
    (case k_law => k_is)
    (case q_MOST_ARMS => k_is)
    (case q_MOST_PLACES => k_is)
    (case q_GREATEST_KEY => k_is)
    (case q_MOST_KEYS => k_is)
    (case q_MOST_COUNTED => k_is)
    (case z_isinstance => k_is)
    (case z_int => k_is)
    (case z_bool => k_is)
    (case z_len => k_is)
    (case z_tuple => k_is)
    (case z_list => k_is)
    (case z_range => k_is)
    (case z_enumerate => k_is)
    (case z_reversed => k_is)
    (case z_min => k_is)
    (case z_sum => k_is)
    (case z_iter => k_is)
    (case z_any => k_is)
    (case z_sorted => k_is)
    (case z_set => k_is)
    (case pg => k_is)
    (case hd => k_is)
    (case po_ => k_is)
    (case sa => k_is)
    (case na_nMany => k_is)
    (case na_nArms => k_is)
    (case na_nPl => k_is)
    (case mk => k_is)
    (case kc => k_is)
    (case rd => k_is)
    (case ga => k_is)
    (case pgS => k_is)
    (case hdS => k_is)
    (case po_S => k_is)
    (case saS => k_is)
    (case na_nRow => k_is)
    (case na_nWay => k_is)
    (case na_nLooks => k_is)
    (case mkS => k_is)
    (case kcS => k_is)
    (case eneS => k_is)
    (case eobS => k_is)
    (case eniS => k_is)
    (case entS => k_is)
    (case kaS => k_is)
    (case knS => k_is)
    (case ktkS => k_is)
    (case kmS => k_is)
    (case kclS => k_is)
    (case ktyS => k_is)
