import PyProof.Rows.All
import Wide.All
import OpenK.AllK
import Wide.FinOn
import HandS.ForMost
import HandS.Exc
import HandS.ExcOwn
import HandS.ExcValue
import HandS.ExcInit
import HandS.ExcField
import HandS.ExcIs
import HandS.IsInst
import HandS.DictComp
import KE.KExcIs
import KE.KIsAll
import PyProof.ReprRoads
import PyProof.ExcFactsAll.LookupError
import PyProof.ExcFactsAll.RuntimeError
import PyProof.ExcFactsAll.ValueError
import HandS.ExcBuiltin
import PySem.Challenge.RW_pawldials_k56_refusals_made_of_their_fie
set_option Elab.async false
set_option maxRecDepth 100000
/-! Own rules: errors that are held as values, and data of any depth with dicts in it. -/
namespace Pk
open PySem L2 PySem.Spec PyProof.Rows

theorem sameNew {H : Hp} {p : Addr} (h : H p = none) (o : HO) : Same H (upd H p o) := fun b u q => by rw [upd_ne (ne_of_none q h)]; exact q

/-! ### errors as values -/
/-- at a: an error of the class at C, with these fields -/
def Exq (H : Hp) (a C : Addr) (fs : List (Str × V)) : Prop :=
  (fs = [] ∧ H a = some (ExO (.ref C) a)) ∨ ∃ d, H a = some (exo a C (some d)) ∧ H d = some (exd d fs)
theorem Exq.same {H H' : Hp} {a C : Addr} {fs : List (Str × V)} (s : Same H H') (e : Exq H a C fs) : Exq H' a C fs := by
  rcases e with ⟨h, e⟩ | ⟨d, e, f⟩
  · exact .inl ⟨h, s _ _ e⟩
  · exact .inr ⟨d, s _ _ e, s _ _ f⟩
section
variable {X : Cx}
/-- C(), a class without an own __init__ -/
theorem pe_exq0 {C : Addr} {bmB : List Value} {B newId initId : String} {x : Str} {p pos : Pos} (F : ExcBaseFacts B newId initId bmB) (q : PySem.W.excIn X.K C bmB newId = true) (gC : X.mg x = some (.ref C)) (kC : PySem.W.keepIn X.K (.ref C) = true) (hg : Gl X x)
    (hdg : (x == ("__debug__" : Str)) = false := by decide) :
    PE X (.Call (.Name x p) [] [] pos) (fun σ H Q => ∀ a H', Same H H' → Exq H' a C [] → Q (.ref a) H') := by
  refine ⟨fun pz s σ H Q I h => ?_⟩
  refine wpAny_Call_Name_kw (ld_glob I hg gC ?_ hdg)
  refine PySem.W.callWith_K0 I.kIn kC ?_
  show wpAny _ _ (call (.ref C) []) _ _ _
  obtain ⟨bm, N, n0, qn, bs, hdct, sn, sub, ab, col, dd, k0, k1, k2, k3, k5, mN, hcl0, hN, hni, TT⟩ := exc_obj I.kIn q
  refine wpAny_call_exc_subT F TT hcl0 hN hni (fun h' a hm => ?_) (by show 0 ≤ sizeLine; omega)
  have hn : H a = none := I.hok.gone hm.new
  obtain ⟨t, htt, _, _⟩ := hm.there
  exact ⟨.ref a, upd H a (ExO (.ref C) a), I.laidN hm.keeps hm.new hn (exO_ok htt ⟨rfl, rfl⟩ rfl rfl rfl (show 4 < 6 by decide)), rfl, h a _ (sameNew hn _) (.inl ⟨rfl, upd_same⟩)⟩
/-- C(e, ..), C's own __init__ keeping sp; the error is the value -/
def tMkV (C : Addr) (sp : Sp) (ta : TA) : TE := fun σ H Q => ta σ H fun vs Ha => vs.length ≤ 1000 ∧ ∀ a, Ha a = none → sp (.ref a :: vs) (upd Ha a (exo a C none)) (fun v H2 => v = .non ∧ Q (.ref a) H2) (fun _ _ _ => False)
theorem pe_mkV {e : Expr} {es : List Expr} {ta : TA} {p pos : Pos} {CX : CXT} {x : Str} {C fI : Addr} {k : Nat} {fd : FuncData} {ps : List Str} {sp : Sp} (TT : OexC X.K C) (iC : PySem.W.findIn X.K (.ref C) "__init__" = some (some (.ref fI))) (tI : PySem.W.typeIn X.K (.ref fI) = some (.type "function"))
    (F1 : FnOk X.prog X.w X.K X.mg X.base CX k fI fd ps sp) (hr : Room (k + 1) X.A) (hb : Binds X.K fd ps []) (hx : Passes CX X (fun _ _ _ => False)) (hg : Gl X x) (hm : X.mg x = some (.ref C)) (ha : PA X (e :: es) ta)
    (hdg : (x == ("__debug__" : Str)) = false := by decide) (he : starEach (e :: es) X.env = (false, eval e X.env) :: starEach es X.env := by rfl) (hpz : (backTo pos (starEach es X.env)).any (·.1) = false := by rfl) :
    PE X (.Call (.Name x p) (e :: es) [] pos) (tMkV C sp ta) := by
  refine ⟨fun pz s σ H Q I h => ?_⟩
  obtain ⟨n0, q, N, bs, bm, sn, sub, ab, col, dd, k0, k1, k2, k3, k5, hcl0, hbq⟩ := TT.cls
  refine wpAny_Call_Name_kw (ld_glob I hg hm ?_ hdg)
  refine PySem.W.callWith_K (h₀ := X.base) I.ok.mod.kin TT.kC (thn (ha.run pos pz s σ H _ I h) fun ua sa ⟨vs, Ha, Ia, ra, hy, qa⟩ => ⟨Ia.kIn, ?_⟩) he hpz
  show wpAny _ _ (call (.ref C) ua) _ _ _
  obtain ⟨hq, g, dw, tz, oz⟩ := sa
  have hsa : hq.objs.size ≤ hq.objs.size + 1 := Nat.le_succ _
  have hn : Ha (hq.objs.size + 1) = none := Ia.hok.fresh hsa
  have hf0 := qa (hq.objs.size + 1) hn
  have kq : ∀ b o, hq.get? b = some o → ((hq.push (PySem.W.kdv_tup ua)).push (PySem.HandSPX.excO C hq.objs.size)).get? b = some o := fun b o e => Heap.get?_push_of_some _ (Heap.get?_push_of_some _ e)
  have hgq : ((hq.push (PySem.W.kdv_tup ua)).push (PySem.HandSPX.excO C hq.objs.size)).get? (hq.objs.size + 1) = some (PySem.HandSPX.excO C hq.objs.size) := by heap_get
  have Ib : Inv X pz σ (upd Ha (hq.objs.size + 1) (exo (hq.objs.size + 1) C none)) ⟨(hq.push (PySem.W.kdv_tup ua)).push (PySem.HandSPX.excO C hq.objs.size), g, dw, tz, oz⟩ :=
    Ia.laid (t' := tz) (a := hq.objs.size + 1) (o := exo (hq.objs.size + 1) C none) (h' := (hq.push (PySem.W.kdv_tup ua)).push (PySem.HandSPX.excO C hq.objs.size)) kq hsa (exo_ok hgq)
  have rb : Vals (V.ref (hq.objs.size + 1) :: vs) (Value.ref (hq.objs.size + 1) :: ua) := .cons rfl ra
  have hl : (Value.ref (hq.objs.size + 1) :: ua).length = ps.length := by
    have e := rb.length
    rw [F1.len _ _ _ _ hf0] at e
    exact e.symm
  have hua : ua.length ≤ sizeLine := by
    rw [← Paired.length ra, sizeLine_eq]
    omega
  have b := hb ⟨(hq.push (PySem.W.kdv_tup ua)).push (PySem.HandSPX.excO C hq.objs.size), g, dw, tz, oz⟩ (Value.ref (hq.objs.size + 1) :: ua) Ib.kIn (by rw [List.append_nil]; exact hl)
  rw [List.append_nil] at b
  refine wpAny_call (PySem.HandSPX.call_own F.excBase_ValueError (fun Y => PySem.HandSPX.refsVE_contains Y bm hbq) (Ia.kIn _ _ hcl0) (PySem.W.looks_findIn Ia.kIn iC) (fun self => PySem.W.bind_fn Ia.kIn self tI) hua
    (codeAny_mono (F1.run _ X.stack _ _ ⟨Value.ref (hq.objs.size + 1) :: ua, []⟩ (Value.ref (hq.objs.size + 1) :: ua) _ _ (fun _ _ _ => False) (hr.make C ua []) (Ib.env0.make C ua []) b rb hf0) fun r s' hw' => ?_))
  cases r with
  | error ee => exact hx pz σ _ _ ee s' Ib hw'
  | ok fl =>
    cases fl with
    | ret u =>
      obtain ⟨v, H', Ic, rz, ev, q3⟩ := Ib.after hw'
      subst ev
      exact ⟨rz, ⟨V.ref (hq.objs.size + 1), H', Ic, rfl, q3⟩⟩
    | next => exact hw'.elim
    | brk => exact hw'.elim
    | cont => exact hw'.elim
/-- e.f of an error that is held as a value -/
theorem pe_exf {e : Expr} {te : TE} {pos : Pos} {n : Str} (he : PE X e te) (hb : attributeBase e n X.env (eval e X.env) = eval e X.env := by rfl) :
    PE X (.Attribute e n pos) (fun σ H Q => te σ H fun x Ha => ∃ (a C : Addr) (fs : List (Str × V)) (v : V), x = .ref a ∧ Exq Ha a C fs ∧ XfC X.K C ∧ PySem.W.findIn X.K (.ref C) n = some none ∧ fs.lookup n = some v ∧ Q v Ha) := by
  refine ⟨fun pz s σ H Q I h => ?_⟩
  refine attr_of hb (thn (he.run pz s σ H _ I h) fun u sa hw => ?_)
  obtain ⟨x, Ha, Ia, ry, a, C, fs, v, ex, ea, TT, hnn, l, q⟩ := hw
  subst ex
  cases (show u = .ref a from ry)
  rcases ea with ⟨hf, _⟩ | ⟨dd, e1, e2⟩
  · subst hf
    cases l
  · obtain ⟨t1, ha⟩ := exo_at Ia.hok e1
    obtain ⟨mq, hnq, hr⟩ := exd_at Ia.hok e2
    obtain ⟨oq, ho, hl⟩ := lookIn_ns hnq
    obtain ⟨u, hu, ru⟩ := RelO.some_of (v := v) (o := mq n) (by rw [← l]; exact hr n)
    have J : PySem.W.InstAt sa.heap a { cls := .ref C, dict := some dd, data := .fields #[.ref t1, .none, .none, .none, .bool false, .none] } C (some oq) := ⟨ha, rfl, rfl, ho⟩
    exact HandSPX.exc_get Ia.kIn J TT.ga TT.gg TT.exC (PySem.W.findObj_own TT.hdC hnn rfl (by rw [hl, hu])) (handed_of ru) ⟨v, Ha, Ia.tok _, ru, q⟩
/-- what isinstance asks of such an error -/
theorem Exq.kit {pz : List (Addr × Obj)} {σ : L2.St} {H : Hp} {s : Shared} {a C : Addr} {fs : List (Str × V)} (I : L2.Inv X pz σ H s) (e : Exq H a C fs) (TT : ExcC X.K C) : ∃ P : Heap → Prop, PySem.W.KitX X.K (.ref a) (.ref C) P ∧ P s.heap := by
  have hcl : (PySem.W.clsIn X.K C).isSome = true := by
    obtain ⟨cd, hc, _⟩ := PySem.W.any_some TT.hd
    rw [hc]
    rfl
  rcases e with ⟨_, e⟩ | ⟨dd, e1, e2⟩
  · obtain ⟨⟨oe, vs, ho, hy, hd, _⟩, _, _⟩ := I.hok a _ e
    refine ⟨_, PySem.W.kitx_exc (ox := oe) (od := none) hcl TT.hg TT.hk TT.hs TT.ha TT.hn TT.ht TT.hm, ?_⟩
    obtain ⟨oc, oq, oda, osl⟩ := oe
    obtain ⟨h1, h2⟩ := hy
    dsimp only at h1 h2 hd
    subst h1 h2 hd
    exact ⟨ho, rfl, rfl, trivial⟩
  · obtain ⟨t1, ha⟩ := exo_at I.hok e1
    obtain ⟨mq, hnq, hr⟩ := exd_at I.hok e2
    obtain ⟨oq, ho, hl⟩ := lookIn_ns hnq
    exact ⟨_, PySem.W.kitx_exc (ox := { cls := .ref C, dict := some dd, data := .fields #[.ref t1, .none, .none, .none, .bool false, .none] }) (od := some oq) hcl TT.hg TT.hk TT.hs TT.ha TT.hn TT.ht TT.hm, ⟨ha, rfl, rfl, ho⟩⟩
/-- isinstance(e, c) -/
theorem call_isQ : CallR X (.builtin "isinstance") (fun xs H Q => ∃ (a C : Addr) (fs : List (Str × V)) (c : V) (u : Value) (b : Bool), xs = [.ref a, c] ∧ Exq H a C fs ∧ ExcC X.K C ∧ ClsV c u ∧ PySem.W.kitOne X.K (.ref C) u = some b ∧ Q (.bl b) H) := by
  intro pz s σ H xs ua Q I r h
  obtain ⟨a, C, fs, c, u, b, rfl, ea, TT, k, e, q⟩ := h
  obtain ⟨u1, u2, rfl, ra, rb⟩ := vals2 r
  have e2 := k.eq rb
  subst e2
  cases (show u1 = Value.ref a from ra)
  obtain ⟨P, Z, p⟩ := ea.kit I TT
  exact PySem.W.kia_one Z I.kIn p e (fun z => nomatch z) fun tz => ⟨.bl b, H, I.tok tz, rfl, q⟩
/-- isinstance(e, (c1, c2, ..)) -/
theorem call_isQT : CallR X (.builtin "isinstance") (fun xs H Q => ∃ (a C : Addr) (fs : List (Str × V)) (tp : Addr) (cs : List V) (ws : List Value) (b : Bool), xs = [.ref a, .ref tp] ∧ Exq H a C fs ∧ ExcC X.K C ∧ H tp = some (.tup cs) ∧ Paired ClsV cs ws ∧ PySem.W.kitAny X.K (.ref C) ws = some b ∧ Q (.bl b) H) := by
  intro pz s σ H xs ua Q I r h
  obtain ⟨a, C, fs, tp, cs, ws, b, rfl, ea, TT, htp, k, e, q⟩ := h
  obtain ⟨u1, u2, rfl, ra, rb⟩ := vals2 r
  cases (show u2 = Value.ref tp from rb)
  cases (show u1 = Value.ref a from ra)
  obtain ⟨P, Z, p⟩ := ea.kit I TT
  obtain ⟨_, itz, rz, o, h1, h2, n, h3⟩ := (show ObjOk X.prog X.w H s.heap tp (.tup cs) from I.hok tp _ htp)
  have e3 := ClsV.all k rz
  subst e3
  obtain ⟨oc, oq, dt, sl⟩ := o
  simp only at h2 h3
  subst h2 h3
  exact PySem.W.kia_tup Z I.kIn p h1 e (fun z => nomatch z) fun tz => ⟨.bl b, H, I.tok tz, rfl, q⟩
end
end Pk
namespace Pk
open PySem L2 PySem.Spec PyProof.Rows

/-! ### data of any depth in the heap -/
/-- a key as data -/
def keyD : Key → PyData
  | .inl i => .int i
  | .inr x => .str x
mutual
/-- v is this data -/
inductive Tr (H : Hp) : V → PyData → Prop
  | non : Tr H .non .none
  | bl (b : Bool) : Tr H (.bl b) (.bool b)
  | int (i : Int) : Tr H (.int i) (.int i)
  | str (x : Str) : Tr H (.str x) (.str x)
  | lst {a : Addr} {xs : List V} {ds : List PyData} : H a = some (.lst xs) → TrAll H xs ds → Tr H (.ref a) (.list ds)
  | tup {a : Addr} {xs : List V} {ds : List PyData} : H a = some (.tup xs) → TrAll H xs ds → Tr H (.ref a) (.tuple ds)
  | dct {a : Addr} {kvs : List (Key × V)} {es : List (PyData × PyData)} : H a = some (.dK kvs) → (kvs.map (·.1)).Nodup → es.map (·.1) = kvs.map (fun p => keyD p.1) → TrAll H (kvs.map (·.2)) (es.map (·.2)) → Tr H (.ref a) (.dict es)
inductive TrAll (H : Hp) : List V → List PyData → Prop
  | nil : TrAll H [] []
  | cons {v : V} {vs : List V} {d : PyData} {ds : List PyData} : Tr H v d → TrAll H vs ds → TrAll H (v :: vs) (d :: ds)
end
mutual
theorem Tr.same {H H' : Hp} (s : Same H H') : ∀ {v : V} {d : PyData}, Tr H v d → Tr H' v d
  | _, _, .non => .non
  | _, _, .bl b => .bl b
  | _, _, .int i => .int i
  | _, _, .str x => .str x
  | _, _, .lst h a => .lst (s _ _ h) (TrAll.same s a)
  | _, _, .tup h a => .tup (s _ _ h) (TrAll.same s a)
  | _, _, .dct h n e a => .dct (s _ _ h) n e (TrAll.same s a)
theorem TrAll.same {H H' : Hp} (s : Same H H') : ∀ {vs : List V} {ds : List PyData}, TrAll H vs ds → TrAll H' vs ds
  | _, _, .nil => .nil
  | _, _, .cons h t => .cons (Tr.same s h) (TrAll.same s t)
end
theorem TrAll.length {H : Hp} : ∀ {vs : List V} {ds : List PyData}, TrAll H vs ds → vs.length = ds.length
  | _, _, .nil => rfl
  | _, _, .cons _ t => by rw [List.length_cons, List.length_cons, TrAll.length t]
theorem TrAll.get {H : Hp} : ∀ {vs : List V} {ds : List PyData} {i : Nat} {v : V}, TrAll H vs ds → vs[i]? = some v → ∃ d, ds[i]? = some d ∧ Tr H v d
  | _, _, i, v, .nil, h => by simp at h
  | _, _, 0, v, .cons h t, e => by
    cases (show some _ = some v from e)
    exact ⟨_, rfl, h⟩
  | _, _, i + 1, v, .cons h t, e => by
    exact TrAll.get (i := i) t e
theorem TrAll.snoc {H : Hp} : ∀ {vs : List V} {ds : List PyData} {v : V} {d : PyData}, TrAll H vs ds → Tr H v d → TrAll H (vs ++ [v]) (ds ++ [d])
  | _, _, _, _, .nil, one => .cons one .nil
  | _, _, _, _, .cons h t, g => .cons h (TrAll.snoc t g)
theorem TrAll.append {H : Hp} : ∀ {vs ws : List V} {ds es : List PyData}, TrAll H vs ds → TrAll H ws es → TrAll H (vs ++ ws) (ds ++ es)
  | _, _, _, _, .nil, g => g
  | _, _, _, _, .cons h t, g => .cons h (TrAll.append t g)
theorem Tr.isList {H : Hp} {v : V} {ds : List PyData} (h : Tr H v (.list ds)) : ∃ a xs, v = .ref a ∧ H a = some (.lst xs) ∧ TrAll H xs ds := by
  cases h with
  | lst h t => exact ⟨_, _, rfl, h, t⟩
theorem Tr.isTup {H : Hp} {v : V} {ds : List PyData} (h : Tr H v (.tuple ds)) : ∃ a xs, v = .ref a ∧ H a = some (.tup xs) ∧ TrAll H xs ds := by
  cases h with
  | tup h t => exact ⟨_, _, rfl, h, t⟩
theorem TrAll.rep {H : Hp} {v : V} {d : PyData} (h : Tr H v d) : ∀ n : Nat, TrAll H (List.replicate n v) (List.replicate n d)
  | 0 => .nil
  | n + 1 => .cons h (TrAll.rep h n)
/-- the keys of a dict, read -/
theorem reads_keys {P : Program} {w : World} {h : Heap} : ∀ {es : List DictEntry} {kvs : List (Key × V)} {vs : List (Key × Value)}, Pairs (mixKind P w) es vs → KV kvs vs → ReadsAll h (es.map (·.key)) (kvs.map (fun p => keyD p.1)) []
  | _, _, _, .nil, .nil => .nil
  | _, _, _, .cons hk hv t, .cons r rs => by
    have ih := reads_keys (h := h) t rs
    simp only [List.map_cons]
    refine ReadsAll.cons (as := []) (bs := []) ?_ ih
    rw [← r.1] at hk
    rcases keyIs_shape hk with ⟨i, u, e1, e2⟩ | ⟨x, u, e1, e2⟩
    · rw [e1, e2]
      exact Reads.int i u
    · rw [e1, e2]
      exact Reads.str x u
theorem vals_of_pairs {P : Program} {w : World} : ∀ {es : List DictEntry} {kvs : List (Key × V)} {vs : List (Key × Value)}, Pairs (mixKind P w) es vs → KV kvs vs → Vals (kvs.map (·.2)) (es.map (·.val))
  | _, _, _, .nil, .nil => .nil
  | _, _, _, .cons hk hv t, .cons r rs => by
    rw [List.map_cons, List.map_cons, hv]
    exact .cons r.2 (vals_of_pairs t rs)
section
variable {X : Cx} {H : Hp} {s : Shared} {σ : L2.St} {pins : List (Addr × Obj)}
mutual
theorem Tr.reads (I : L2.Inv X pins σ H s) : ∀ {v : V} {d : PyData}, Tr H v d → ∀ u : Value, RelV v u → ∃ as, Reads s.heap u d as
  | _, _, .non, u, r => by
    cases (show u = Value.none from r)
    exact ⟨_, Reads.none⟩
  | _, _, .bl b, u, r => by
    cases (show u = Value.bool b from r)
    exact ⟨_, Reads.bool b⟩
  | _, _, .int i, u, r => by
    obtain ⟨t, e⟩ := (show ∃ t, u = Value.int i t from r)
    cases e
    exact ⟨_, Reads.int i t⟩
  | _, _, .str x, u, r => by
    obtain ⟨t, e⟩ := (show ∃ t, u = Value.str x t from r)
    cases e
    exact ⟨_, Reads.str x t⟩
  | _, _, @Tr.lst _ a xs ds h al, u, r => by
    cases (show u = Value.ref a from r)
    obtain ⟨_, its, n, rv, ho⟩ := (show ObjOk X.prog X.w H s.heap a (.lst xs) from I.hok a _ h)
    obtain ⟨as, q⟩ := TrAll.reads I al its rv
    exact ⟨_, Reads.list ho rfl rfl (by simpa using q)⟩
  | _, _, @Tr.tup _ a xs ds h al, u, r => by
    cases (show u = Value.ref a from r)
    obtain ⟨_, its, rv, o, ho, hc, n, hd⟩ := (show ObjOk X.prog X.w H s.heap a (.tup xs) from I.hok a _ h)
    obtain ⟨as, q⟩ := TrAll.reads I al its rv
    exact ⟨_, Reads.tuple ho hc hd (by simpa using q)⟩
  | _, _, @Tr.dct _ a kvs es h nd ek al, u, r => by
    cases (show u = Value.ref a from r)
    obtain ⟨_, _, vs, rel, o, des, ep, ho, hx, hd, _, pr, _⟩ := (show ObjOk X.prog X.w H s.heap a (.dK kvs) from I.hok a _ h)
    obtain ⟨bs, q⟩ := TrAll.reads I al _ (vals_of_pairs pr rel)
    exact ⟨_, Reads.dict ho hx.1 hd (by rw [ek]; exact reads_keys pr rel) q⟩
theorem TrAll.reads (I : L2.Inv X pins σ H s) : ∀ {vs : List V} {ds : List PyData}, TrAll H vs ds → ∀ us : List Value, Vals vs us → ∃ as, ReadsAll s.heap us ds as
  | _, _, .nil, us, r => by
    cases r
    exact ⟨_, ReadsAll.nil⟩
  | _, _, .cons h t, us, r => by
    cases r with
    | cons r1 r2 =>
      obtain ⟨as, q1⟩ := Tr.reads I h _ r1
      obtain ⟨bs, q2⟩ := TrAll.reads I t _ r2
      exact ⟨as ++ bs, .cons q1 q2⟩
end
end
/-- data without lists and dicts in it that stand at an address of their own -/
def plainD : PyData → Bool
  | .int _ | .str _ | .none | .bool _ => true
  | _ => false
def plainAll : (ds : List PyData) → Bool
  | [] => true
  | d :: ds => plainD d && plainAll ds
/-- a dict of plain things -/
def flatDict : PyData → Bool
  | .dict es => plainAll (es.map (·.2))
  | _ => false
section
variable {X : Cx} {H : Hp} {s : Shared} {σ : L2.St} {pins : List (Addr × Obj)}
theorem plain_reads {h : Heap} : ∀ {us : List Value} {ds : List PyData} {as : List Addr}, ReadsAll h us ds as → plainAll ds = true → as = []
  | _, _, _, .nil, _ => rfl
  | _, _, _, .cons hd tl, e => by
    rw [plainAll, Bool.and_eq_true] at e
    have ih := plain_reads tl e.2
    subst ih
    cases hd with
    | none => rfl
    | bool b => rfl
    | int i t => rfl
    | str x t => rfl
    | list _ _ _ _ => exact absurd e.1 (by simp [plainD])
    | tuple _ _ _ _ => exact absurd e.1 (by simp [plainD])
    | dict _ _ _ _ _ => exact absurd e.1 (by simp [plainD])
/-- flat dicts side by side lie at no address that the system keeps -/
theorem TrAll.flat (I : L2.Inv X pins σ H s) : ∀ {vs : List V} {ds : List PyData}, TrAll H vs ds → (∀ d ∈ ds, flatDict d = true) → ∀ us : List Value, Vals vs us → ∃ as, ReadsAll s.heap us ds as ∧ sysModules ∉ as
  | _, _, .nil, _, us, r => by
    cases r
    exact ⟨_, ReadsAll.nil, by simp⟩
  | _, _, @TrAll.cons _ v vs d ds h t, f, us, r => by
    cases r with
    | cons r1 r2 =>
      rename_i u us
      obtain ⟨bs, q2, n2⟩ := TrAll.flat I t (fun d hd => f d (List.mem_cons_of_mem _ hd)) _ r2
      have fd := f d List.mem_cons_self
      cases h with
      | non => cases fd
      | bl b => cases fd
      | int i => cases fd
      | str x => cases fd
      | lst _ _ => cases fd
      | tup _ _ => cases fd
      | @dct a kvs es h nd ek al =>
        cases (show u = Value.ref a from r1)
        obtain ⟨_, hsys, vs, rel, o, des, ep, ho, hx, hd, _, pr, _⟩ := (show ObjOk X.prog X.w H s.heap a (.dK kvs) from I.hok a _ h)
        obtain ⟨cs, q⟩ := TrAll.reads I al _ (vals_of_pairs pr rel)
        have ec := plain_reads q fd
        subst ec
        refine ⟨_, ReadsAll.cons (Reads.dict ho hx.1 hd (by rw [ek]; exact reads_keys pr rel) q) q2, ?_⟩
        intro z
        rcases List.mem_append.mp z with z | z
        · have z' : sysModules = a := by simpa using z
          rw [z'] at hsys
          simp at hsys
        · exact n2 z
end
/-- repr of a list, where what stands in it lies at no address that the system keeps -/
theorem repr_listD {prog : Program} {w : World} {A : Around} {E : Value → Shared → Prop} {s : Shared} {Q : Value → Shared → Prop} {a : Addr} {o : Obj} {vs : List Value} {n : Nat} {xs : List PyData} {as : List Addr}
    (h1 : s.heap.get? a = some o) (h2 : o.cls = .type "list") (h3 : o.data = .seq vs.toArray n) (h4 : ReadsAll s.heap vs xs as) (hs : PyData.showableAll xs = true) (hm : PyData.hasDictAll xs = true → sysModules ∉ as) (hg : A.guards = some [])
    (hu : A.units + (PyData.depth (.list xs) + 1) < cLine) (hsz : (PyData.shown (.list xs)).length ≤ sizeLine)
    (hQ : ∀ h' u tk, (∀ b o, s.heap.get? b = some o → h'.get? b = some o) → Q (.str (PyData.shown (.list xs)) u) { s with heap := h', toks := tk }) : wpAny (model prog w) A (call (.builtin "repr") [.ref a]) Q E s := by
  have zl : (listText (PyData.shownAll xs)).length ≤ sizeLine := by simpa only [PyData.shown] using hsz
  obtain ⟨bs, hb, hk⟩ := ReprAllK.of_readsAll (prog := prog) (w := w) h4 hs hm (fun t ht => Nat.le_trans (listText_mem_le ht) zl)
  have r0 : Reads s.heap (.ref a) (.list xs) (a :: as) := Reads.list h1 h2 h3 (by simpa using h4)
  have na : a ∉ bs := not_mem_of_deeper r0 (by simp only [PyData.depth]; omega) hb
  simp only [PyData.depth] at hu; simp only [PyData.shown] at hQ
  refine call_repr_slot (by omega) ⟨o, h1, h2⟩ F.slot_list_repr.toG ?_
  cases vs with
  | nil =>
    cases h4
    simp only [listText_nil, PyData.shownAll] at hQ
    exact call_list_repr_empty ⟨o, h1, h2⟩ h1 h3 ⟨_, _, rfl, hQ s.heap _ _ fun _ _ e => e⟩
  | cons x l =>
    exact call_list_reprK (h₀ := s.heap) h1 h2 h3 na (by simpa using hk.length_eq) (fun i y e => hk.item i y (by simpa using e)) hg (fun b _ => Clear.nil b) (by show A.units + 1 + (PyData.depthAll xs + 1) < cLine; omega) (fun _ _ e => e) (fun h' u tk k => ⟨_, _, rfl, hQ h' u tk k⟩) zl
/-- repr(xs), xs a list: things without dicts, or flat dicts alone -/
theorem call_reprL {X : Cx} (hg : X.A.guards = some []) (hu : X.A.units + 100 < cLine) : CallR X (.builtin "repr") (fun xs H Q => ∃ (a : Addr) (zs : List V) (ds : List PyData), xs = [.ref a] ∧ H a = some (.lst zs) ∧ TrAll H zs ds ∧ (PyData.hasDictAll ds = false ∨ ∀ d ∈ ds, flatDict d = true) ∧
    PyData.showableAll ds = true ∧ PyData.depthAll ds ≤ 60 ∧ (PyData.shown (.list ds)).length ≤ sizeLine ∧ Q (.str (PyData.shown (.list ds))) H) := by
  intro pz s σ H xs ua Q I r h
  obtain ⟨a, zs, ds, rfl, ha, al, hd, hs, hdep, hsz, q⟩ := h
  obtain rfl := Vals.ref1 r
  obtain ⟨_, its, n, rv, ho⟩ := (show ObjOk X.prog X.w H s.heap a (.lst zs) from I.hok a _ ha)
  have key : ∃ as, ReadsAll s.heap its ds as ∧ (PyData.hasDictAll ds = true → sysModules ∉ as) := by
    rcases hd with hd | hd
    · obtain ⟨as, q⟩ := TrAll.reads I al its rv
      exact ⟨as, q, fun z => by rw [hd] at z; cases z⟩
    · obtain ⟨as, q, nq⟩ := TrAll.flat I al hd its rv
      exact ⟨as, q, fun _ => nq⟩
  obtain ⟨as, q4, hm⟩ := key
  refine repr_listD ho rfl rfl q4 hs hm hg (by simp only [PyData.depth]; omega) hsz fun h' u tk k => ?_
  exact ⟨.str _, H, I.kept (t' := tk) k, ⟨u, rfl⟩, q⟩
end Pk
namespace Pk
open PySem L2
/-! ### written data: an expression that makes new things alone -/
/-- what of H' is new -/
def newP (H H' : Hp) : Hp := fun b => match H b with
  | none => H' b
  | some _ => none
theorem newP_at {H H' : Hp} {b : Addr} (h : H b = none) : newP H H' b = H' b := by
  unfold newP
  rw [h]
theorem newP_some {H H' : Hp} {b : Addr} {o : HO} (h : newP H H' b = some o) : H b = none ∧ H' b = some o := by
  unfold newP at h
  cases e : H b with
  | none =>
    rw [e] at h
    exact ⟨rfl, h⟩
  | some u =>
    rw [e] at h
    cases h
theorem newP_grow {H H1 H2 : Hp} (s : Same H1 H2) : Same (newP H H1) (newP H H2) := fun b o e => by
  obtain ⟨h1, h2⟩ := newP_some e
  rw [newP_at h1]
  exact s b o h2
theorem newP_back {H H1 H2 : Hp} (s : Same H H1) : Same (newP H1 H2) (newP H H2) := fun b o e => by
  obtain ⟨h1, h2⟩ := newP_some e
  rw [newP_at (s.free h1)]
  exact h2
theorem newP_all {H H' : Hp} : Same (newP H H') H' := fun b o e => (newP_some e).2
/-- new things are no place that was there -/
theorem newP_del {H H' : Hp} {p : Addr} {o : HO} (h : H p = some o) : Same (newP H H') (del H' p) := fun b u e => by
  obtain ⟨h1, h2⟩ := newP_some e
  rw [del_ne (fun z => by rw [z, h] at h1; cases h1)]
  exact h2
def tD (d : PyData) : TE := fun _ H Q => ∀ v H', Same H H' → Tr (newP H H') v d → Q v H'
def tDs (ds : List PyData) : TA := fun _ H Q => ∀ vs H', Same H H' → TrAll (newP H H') vs ds → Q vs H'
section
variable {X : Cx} {e : Expr} {es : List Expr} {d : PyData} {ds : List PyData} {pos p1 p2 : Pos} {j : Nat}
theorem peW {t t' : TE} (h : PE X e t) (f : ∀ σ H Q, t' σ H Q → t σ H Q) : PE X e t' := ⟨fun pz s σ H Q I q => h.run pz s σ H Q I (f σ H Q q)⟩
theorem paW {t t' : TA} (h : PA X es t) (f : ∀ σ H Q, t' σ H Q → t σ H Q) : PA X es t' := ⟨fun po pz s σ H Q I q => h.run po pz s σ H Q I (f σ H Q q)⟩
theorem pd_int {i : Int} (h : PE X e (tC (.int i))) : PE X e (tD (.int i)) := peW h fun _ H Q q => q _ H (Same.refl _) (.int i)
theorem pd_str {i : Str} (h : PE X e (tC (.str i))) : PE X e (tD (.str i)) := peW h fun _ H Q q => q _ H (Same.refl _) (.str i)
theorem pd_bl {i : Bool} (h : PE X e (tC (.bl i))) : PE X e (tD (.bool i)) := peW h fun _ H Q q => q _ H (Same.refl _) (.bl i)
theorem pd_non (h : PE X e (tC .non)) : PE X e (tD .none) := peW h fun _ H Q q => q _ H (Same.refl _) .non
theorem pd_nil : PA X [] (tDs []) := paW pa_nil fun _ H Q q => q [] H (Same.refl _) .nil
theorem pd_cons (h : PE X e (tD d)) (t : PA X es (tDs ds)) (hs : starEach (e :: es) X.env = (false, eval e X.env) :: starEach es X.env := by rfl) : PA X (e :: es) (tDs (d :: ds)) := by
  refine paW (pa_cons h t hs) fun σ H Q q => ?_
  intro v H1 s1 r1 vs H2 s2 r2
  exact q (v :: vs) H2 (s1.trans s2) (.cons (r1.same (newP_grow s2)) (r2.same (newP_back s1)))
theorem pd_tup {x1} (h : PA X es (tDs ds)) (hl : ds.length ≤ 1000 := by decide) : PE X (.Tuple es x1 pos) (tD (.tuple ds)) := by
  refine peW (pe_tup h) fun σ H Q q => ?_
  intro vs H1 s1 r1
  have e1 : vs.length ≤ sizeLine := Nat.le_of_lt (small1000 (by rw [r1.length]; exact hl))
  refine ⟨e1, fun p hp => ?_⟩
  have s2 := sameNew hp (.tup vs)
  refine q (.ref p) _ (s1.trans s2) (.tup ?_ (r1.same (newP_grow s2)))
  rw [newP_at (s1.free hp), upd_same]
theorem pd_lst (h : PA X es (tDs ds)) (hl : ds.length ≤ 1000 := by decide) : PE X (.List es pos) (tD (.list ds)) := by
  refine peW (pe_lst h) fun σ H Q q => ?_
  intro vs H1 s1 r1
  have e1 : vs.length ≤ sizeLine := Nat.le_of_lt (small1000 (by rw [r1.length]; exact hl))
  refine ⟨e1, fun p hp => ?_⟩
  have s2 := sameNew hp (.lst vs)
  refine q (.ref p) _ (s1.trans s2) (.lst ?_ (r1.same (newP_grow s2)))
  rw [newP_at (s1.free hp), upd_same]
theorem pd_d0 : PE X (.Dict [] [] pos) (tD (.dict [])) := by
  refine peW pe_dnewK fun σ H Q q => ?_
  intro p hp
  refine q (.ref p) _ (sameNew hp _) (.dct (kvs := []) ?_ List.nodup_nil rfl .nil)
  rw [newP_at hp, upd_same]
/-- {'a': 0} -/
theorem pd_d1 {k : Str} {i : Int} {po : Pos} {kx vx : Expr} (hk : PE X kx (tC (.str k))) (hv : PE X vx (tC (.int i))) : PE X (.Dict [some kx] [vx] po) (tD (.dict [(.str k, .int i)])) := by
  refine peW (pe_disp (pps_cons hk hv pps_nil) (by rfl) (by rfl) (fun z => by cases z) (by show 1 ≤ 15; decide)) fun σ H Q q => ?_
  intro p hp
  refine ⟨upd_same, [(Sum.inr k, .int i)], rfl, (by show 1 ≤ 15; decide), ?_⟩
  rw [upd_upd]
  refine q (.ref p) _ (sameNew hp _) (.dct (kvs := [(Sum.inr k, .int i)]) ?_ (by simp) rfl (.cons (.int i) .nil))
  rw [newP_at hp, upd_same]
  rfl
/-- 10 ** 18 and the like -/
theorem pd_pow {a b : Expr} {i k : Int} (ha : PE X a (tC (.int i))) (hb : PE X b (tC (.int k))) (h : CPow i k := by exact ⟨by decide, by decide, by decide⟩) : PE X (.BinOp a .Pow b pos) (tC (.int (i ^ k.toNat))) :=
  peW (pe_op op_pow ha hb) fun σ H Q q => ⟨_, _, rfl, rfl, h, q⟩
theorem pd_neg {a : Expr} {i : Int} (ha : PE X a (tC (.int i))) : PE X (.UnaryOp .USub a pos) (tC (.int (-i))) :=
  peW (pe_un un_neg ha) fun σ H Q q => ⟨_, rfl, q⟩
end
end Pk
namespace Pk
open PySem L2 PySem.Spec PyProof.Rows
/-! ### defs that are run where no text of a list is under way (for repr) -/
/-- the def at f keeps sp, where no repr is under way -/
structure FnG (P : Program) (w : World) (K : PySem.W.Frag) (mg : Str → Option Value) (bs : Heap) (k : Nat) (f : Addr) (fd : FuncData) (ps : List Str) (sp : Sp) : Prop where
  len : ∀ va H Q E, sp va H Q E → va.length = ps.length
  run : ∀ (A : Around) (out : List Env) (s : Shared) (H : Hp) (ar : Args) (ua : List Value) (va : List V) (Q : VK) (E : XK), A.guards = some [] → Room k A → Env0 P w K mg bs A out s H → BindsTo s fd ar (ps.zip ua) → Vals va ua → sp va H Q E →
    codeAny (model P w) A (.call (.ref f) ar) (CR CX0 out P w H s Q E) s
theorem Fun.okG {P : Program} {w : World} {K : PySem.W.Frag} {mg : Str → Option Value} {bs : Heap} {x ql : Str} {st : Stmt} {f : Addr} {fd : FuncData} {N ps : List Str} {k : Nat} {sp : Sp} (F : Fun K x ql st f fd) (S : FnScope N ps (defScope st)) (len : ∀ va H Q E, sp va H Q E → va.length = ps.length)
    (hbd : ∀ (cv : Value) (A : Around) (out : List Env) (s : Shared) (H : Hp) (va : List V) (Q : VK) (E : XK), A.guards = some [] → Room k (A.deeper (envOfC ql (defScope st) s.heap.objs.size f cv)) → sp va H Q E →
      ∃ t, PSs (cxOf CX0 P w K mg bs N ql (defScope st) f cv A out s H E).nox (defBody st) t ∧ t { nx := fun _ H' => Q .non H', rt := Q } (L2.start N va) H) : FnG P w K mg bs (k + 1) f fd ps sp := by
  obtain ⟨oc, oq, kV, doc, pm, an, cv, ct, osl, rfl, lk, hcd⟩ := F.ex
  refine ⟨len, fun A out s H ar ua va Q E hgd hr ez hbt rr hq => ?_⟩
  have hlen := len _ _ _ _ hq
  have inK : K.In s.heap := ez.mod.kin.keeps fun b o e => (ez.bs b o e).1
  have noL : s.heap.NoLimit := ez.mod.nolimit.keeps fun b o e => (ez.bs b o e).1
  refine codeAny_call_function hr.depth (inK _ _ lk) rfl S.co S.gen rfl (PySem.W.codeRec_of inK hcd) (hbt _ _ _ _ (wpAny_newFunctionEnv_cells S.kind (fun ⟨n, v⟩ hy => ?_) fun env he sz xx => ?_))
  · rcases S.par n (List.of_mem_zip hy).1 with z | z
    · exact .inl z
    · exact .inr ⟨z, PySem.W.cellsFrom_some _ _ _ (.inl z)⟩
  · subst he
    refine ⟨noL.keeps xx.toInCall.keep, codeAny_func ?_⟩
    obtain ⟨t, ht, hw⟩ := hbd cv A out s H va Q E hgd (hr.deeper _) hq
    have J : L2.Inv (cxOf CX0 P w K mg bs N ql (defScope st) f cv A out s H E) [] (L2.start N va) H sz := inv_start S hr.hd ez hlen rr xx
    refine wpAny_mono (ht.nox.run [] sz _ H _ J hw) (fun fl sy hy => ?_) fun e sy hy => hy
    cases fl with
    | ret u =>
      obtain ⟨v, σy, Hy, Jy, rv, qy⟩ := hy
      exact ⟨v, Hy, Jy.os, Jy.bare, Jy.base, Jy.hok, rv, qy⟩
    | next =>
      obtain ⟨σy, Hy, Jy, qy⟩ := hy
      exact ⟨.non, Hy, Jy.os, Jy.bare, Jy.base, Jy.hok, rfl, qy⟩
    | brk =>
      obtain ⟨_, _, _, qy⟩ := hy
      exact qy.elim
    | cont =>
      obtain ⟨_, _, _, qy⟩ := hy
      exact qy.elim
/-- f(e, ..) of such a def, where no repr is under way -/
theorem pe_callG {X : Cx} {k : Nat} {f : Addr} {fd : FuncData} {ps : List Str} {sp : Sp} {x : Str} {p pos : Pos} {e : Expr} {es : List Expr} {t : TA} (hgd : X.A.guards = some []) (G : FnG X.prog X.w X.K X.mg X.base k f fd ps sp) (hr : Room k X.A) (hg : Gl X x) (hm : X.mg x = some (.ref f)) (hk : PySem.W.keepIn X.K (.ref f) = true)
    (hb : Binds X.K fd ps []) (ha : PA X (e :: es) t) (hdg : (x == ("__debug__" : Str)) = false := by decide) (he : starEach (e :: es) X.env = (false, eval e X.env) :: starEach es X.env := by rfl) (hpz : (backTo pos (starEach es X.env)).any (·.1) = false := by rfl) :
    PE X (.Call (.Name x p) (e :: es) [] pos) (fun σ H Q => t σ H fun va Ha => sp va Ha Q fun _ _ _ => False) := by
  refine ⟨fun pz s σ H Q I hq => wpAny_Call_Name_kw (ld_glob I hg hm (PySem.W.callWith_K (h₀ := X.base) I.ok.mod.kin hk (thn (ha.run pos pz s σ H _ I hq) fun ua sa ⟨va, Ha, Ia, ra, qa⟩ => ⟨Ia.kIn, ?_⟩) he hpz) hdg)⟩
  have hlen : ua.length = ps.length := by
    rw [← ra.length]
    exact G.len _ _ _ _ qa
  have bt := hb sa ua Ia.kIn (by rw [List.append_nil]; exact hlen)
  rw [List.append_nil] at bt
  refine wpAny_call (codeAny_mono (G.run X.A X.stack sa Ha ⟨ua, []⟩ ua va Q (fun _ _ _ => False) hgd hr Ia.env0 bt ra qa) fun rr sy hy => ?_)
  cases rr with
  | error ee => exact hy.elim
  | ok fl =>
    cases fl with
    | ret u => exact Ia.after hy
    | next => exact hy.elim
    | brk => exact hy.elim
    | cont => exact hy.elim
/-- the law's call from outside: at the heap behind the top nothing but the script is tracked -/
theorem lawG {P : Program} {w : World} {K : PySem.W.Frag} {mg mb : Str → Option Value} {k : Nat} {fa a : Addr} {fd : FuncData} {x : Str} {sp : Sp} {sz : Shared} {va : List Value} {ns : List Int}
    (inK : K.In sz.heap) (hn : sz.heap.Ns mainGlobals mg) (hbn : sz.heap.Ns builtinsNs mb) (hbb : ∀ x : Str, x ≠ "__name__" → mb x = bootBuiltins x) (noL : sz.heap.NoLimit) (hgn : sz.gens = #[])
    (ha : sz.heap.get? a = some { cls := .type "list", data := .seq va.toArray }) (hi : IntsAre va ns) (hl : ns.length ≤ sizeLine) (hr : Room k callerA)
    (G : ∀ bs : Heap, K.In bs → bs.Ns mainGlobals mg → FnG P w K mg bs k fa fd [x] sp) (hbt : ∀ (s : Shared) (u : Value), BindsTo s fd ⟨[u], []⟩ [(x, u)])
    (hq : ∀ H : Hp, SqL K H a (ns.map V.int) → sp [.ref a] H (fun v _ => v = .bl true) fun _ _ _ => False) :
    codeAny (model P w) callerA (.call (.ref fa) ⟨[.ref a], []⟩) (fun r s' => r = .ok (.ret (.bool true)) ∧ OldK sz.heap s'.heap ∧ s'.os = sz.os ∧ AllBare s'.gens) sz := by
  have rr := vals_ints hi
  have ln := hi.length
  have main : ∀ H : Hp, L2.Only H → SqL K H a (ns.map V.int) → HOk P w H sz.heap → (∀ b, H b ≠ none → b = a) → (H a ≠ none → K.lookup a = none) →
      codeAny (model P w) callerA (.call (.ref fa) ⟨[.ref a], []⟩) (fun r s' => r = .ok (.ret (.bool true)) ∧ OldK sz.heap s'.heap ∧ s'.os = sz.os ∧ AllBare s'.gens) sz := by
    intro H only hS hok hA hK
    have isA : ∀ {b : Addr} {u : HO}, H b = some u → b = a := fun {b u} z => hA b (by rw [z]; simp)
    have free : ∀ {b : Addr} {o : Obj} {es : Array DictEntry} {ep : Nat}, sz.heap.get? b = some o → o.data = .dict es ep → H b = none := fun {b o es ep} e d => by
      cases z : H b with
      | none => rfl
      | some u =>
        have eb := isA z
        subst eb
        rw [ha] at e
        cases e
        cases (show Data.seq va.toArray _ = Data.dict es ep from d)
    have nsB : ∀ {b : Addr} {m : Str → Option Value}, sz.heap.Ns b m → (hidT sz.heap H).Ns b m := fun {b m} ⟨o, es, ep, e, d, z⟩ => ⟨o, es, ep, hidT_get e (free e d), d, z⟩
    have kB : K.In (hidT sz.heap H) := fun b o e => hidT_get (inK b o e) (by
      cases z : H b with
      | none => rfl
      | some u =>
        have eb := isA z
        subst eb
        rw [hK (by rw [z]; simp)] at e
        cases e)
    have md : Mod K mg (hidT sz.heap H) := ⟨kB, nsB hn, ⟨mb, nsB hbn, hbb⟩, let ⟨mc, z1, z2⟩ := noL; ⟨mc, nsB z1, z2⟩⟩
    have ez : Env0 P w K mg (hidT sz.heap H) callerA [] sz H := ⟨rfl, md, fun b o e => of_hidT e, Nat.le_of_eq (hidT_size _ _), trivial, fun b hb => absurd (show b ∈ ([] : List Addr) from hb) (by simp), hok, .of_eq hgn⟩
    refine codeAny_mono ((G _ kB (nsB hn)).run callerA [] sz H ⟨[.ref a], []⟩ [.ref a] [.ref a] _ _ rfl hr ez (hbt sz (.ref a)) (.cons rfl .nil) (hq H hS)) fun rz sy hy => ?_
    cases rz with
    | error e => exact hy.elim
    | ok fl =>
      cases fl with
      | next => exact hy.elim
      | brk => exact hy.elim
      | cont => exact hy.elim
      | ret u =>
        obtain ⟨v, Hy, osy, bry, un, oky, rv, qy⟩ := hy
        cases (show v = .bl true from qy)
        cases (show u = Value.bool true from rv)
        refine ⟨rfl, OldK.of_keep fun b o e => ?_, osy, bry⟩
        cases z : H b with
        | none => exact un.keep b o e z (fun q => absurd (show b ∈ ([] : List Addr) from q) (by simp)) (by simp)
        | some u =>
          rcases only b with q | ⟨ob, xs, q⟩
          · rw [z] at q
            cases q
          · obtain ⟨g1, _⟩ := hok b _ q
            obtain ⟨g2, _⟩ := oky b _ (un.frzs b ob _ q)
            rw [e] at g1
            cases g1
            exact g2
  cases hk : K.lookup a with
  | some o =>
    have e := inK a o hk
    rw [ha] at e
    cases e
    exact main (fun _ => none) (fun _ => .inl rfl) (.inr ⟨_, va.toArray, _, hk, rfl, rfl, rfl, by rw [List.size_toArray, ln]; exact hl, by simpa using rr⟩) (fun b u z => by cases (show (none : Option HO) = some u from z)) (fun b z => absurd rfl z) fun z => absurd rfl z
  | none =>
    refine main (fun b => if b = a then some (.frz { cls := .type "list", data := .seq va.toArray } (.lst (ns.map V.int))) else none) (fun b => ?_) (.inl (.inr ⟨{ cls := .type "list", data := .seq va.toArray }, if_pos rfl⟩)) (fun b u z => ?_) (fun b z => ?_) fun _ => hk
    · by_cases hb : b = a
      · right; exact ⟨_, _, if_pos hb⟩
      · exact .inl (if_neg hb)
    · by_cases hb : b = a
      · cases (if_pos hb).symm.trans z
        subst hb
        exact ⟨ha, by rw [List.length_map]; exact hl, va, _, rr, ha⟩
      · cases (if_neg hb).symm.trans z
    · by_cases hb : b = a
      · exact hb
      · exact absurd (if_neg hb) z
/-- the goal that the head leaves, from the law's promise -/
theorem walkG {l : PySem.W.OpenLaw} {n k : Nat} {q : Program} {loose : List Str} {XP : (Str → Option Value) → Heap → Prop} {YP : World → Heap → Prop} {d : DefRec} {K : Params → PySem.W.Frag} {sp : PySem.W.Frag → Sp} {x : Str}
    (hr : Room k callerA) (hn : l.most = some n) (hn2 : n ≤ sizeLine) (hdf : d.params.defaults = []) (hY : ∀ (w : World) (h : Heap), YP w h → (K w.params).In h)
    (G : ∀ (w : World) (mg : Str → Option Value) (fa : Addr) (h : Heap), (K w.params).In h → h.Ns mainGlobals mg → mg d.name = some (.ref fa) →
      ∃ fd : FuncData, (∀ (s : Shared) (u : Value), BindsTo s fd ⟨[u], []⟩ [(x, u)]) ∧ ∀ bs : Heap, (K w.params).In bs → bs.Ns mainGlobals mg → FnG l.prog w (K w.params) mg bs k fa fd [x] (sp (K w.params)))
    (hq : ∀ (K : PySem.W.Frag) (H : Hp) (a : Addr) (ns : List Int), ns.length ≤ n → SqL K H a (ns.map V.int) → sp K [.ref a] H (fun v _ => v = .bl true) fun _ _ _ => False) :
    PySem.W.WalkO q loose XP YP l.row.toRowW d [] (fun f va => PySem.call f va) := by
  refine Att.attach_call hn hdf fun w sy sz mg mb fa o pm cd doc a va ns Gr Y ho hd hcd hmg hob hin hle hgn => ?_
  have inK := hY w _ Y
  obtain ⟨fd, hbt, hG⟩ := G w mg fa _ inK Gr.T.g hmg
  exact lawG inK Gr.T.g Gr.T.b Gr.T.builtins Gr.T.nolimit hgn hob hin (Nat.le_trans hle hn2) hr hG hbt fun H hS => hq _ H a ns hle hS
end Pk
namespace Pk
open PySem L2
def top (i : Nat) : Stmt := PySem.Challenge.pw_pawldials_k56_refusals_made_of_their_fie.main.body.getD i (.Pass ⟨0, 0, 0, 0⟩)
abbrev sKept : Stmt := top 1
abbrev sPen : Stmt := top 35
abbrev sDraw : Stmt := top 36
abbrev sPick : Stmt := top 37
abbrev sOdd : Stmt := top 38
abbrev sMarks : Stmt := top 39
abbrev sUnder : Stmt := top 40
abbrev sMade : Stmt := top 41
abbrev sFields : Stmt := top 42
abbrev sLaw : Stmt := top 43

theorem small {n : Nat} (h : n ≤ 1000) : n ≤ sizeLine := Nat.le_of_lt (small1000 h)
/-- all but p stays -/
def Sb (p : Addr) (H H' : Hp) : Prop := Same (del H p) (del H' p)
theorem Sb.of {p : Addr} {H H' : Hp} (h : ∀ b o, b ≠ p → H b = some o → H' b = some o) : Sb p H H' := fun b o e => by
  by_cases hb : b = p
  · subst hb
    rw [del_same] at e
    cases e
  · rw [del_ne hb] at e ⊢
    exact h b o hb e
theorem Sb.to {p : Addr} {H H' : Hp} (s : Sb p H H') {b : Addr} {o : HO} (hb : b ≠ p) (e : H b = some o) : H' b = some o := by
  have z := s b o (by rw [del_ne hb]; exact e)
  rw [del_ne hb] at z
  exact z
theorem Sb.same {p : Addr} {H H' : Hp} (s : Same H H') : Sb p H H' := .of fun b o _ e => s b o e
theorem Sb.trans {p : Addr} {H H1 H2 : Hp} (a : Sb p H H1) (b : Sb p H1 H2) : Sb p H H2 := Same.trans a b
theorem Sb.refl (p : Addr) (H : Hp) : Sb p H H := Same.refl _
theorem Sb.upd {p : Addr} {H : Hp} (o : HO) : Sb p H (upd H p o) := .of fun b u hb e => by rw [upd_ne hb]; exact e
/-- what stands apart from p stands -/
theorem delSame {p : Addr} {H : Hp} : Same (del H p) H := fun b o e => by
  by_cases hb : b = p
  · subst hb
    rw [del_same] at e
    cases e
  · rw [del_ne hb] at e
    exact e
theorem delNew {H : Hp} {p q : Addr} (h : p ≠ q) (hq : H q = none) (o : HO) : del (upd H q o) p q = some o := by
  rw [del_ne h.symm, upd_same]

/-- the pen: its cells at c, the turn, what is left of a great cell -/
def penK (c : Addr) (t r : Int) : List (Key × V) := [(Sum.inr "cells", .ref c), (Sum.inr "turn", .int t), (Sum.inr "rest", .int r)]
structure PenAt (H : Hp) (p c : Addr) (ns : List Int) (t r : Int) : Prop where
  at_ : H p = some (.dK (penK c t r))
  cells : H c = some (.lst (ns.map V.int))
  len : ns.length ≤ 63
  t0 : 0 ≤ t
  r0 : 0 ≤ r
theorem PenAt.ne {H : Hp} {p c : Addr} {ns : List Int} {t r : Int} (P : PenAt H p c ns t r) : c ≠ p := ne_of P.cells P.at_ (by intro z; cases z)
theorem PenAt.upd {H : Hp} {p c : Addr} {ns : List Int} {t r t' r' : Int} (P : PenAt H p c ns t r) (h1 : 0 ≤ t') (h2 : 0 ≤ r') : PenAt (upd H p (.dK (penK c t' r'))) p c ns t' r' :=
  ⟨upd_same, by rw [upd_ne P.ne]; exact P.cells, P.len, h1, h2⟩
theorem PenAt.same {H H' : Hp} {p c : Addr} {ns : List Int} {t r : Int} (P : PenAt H p c ns t r) (s : Same H H') : PenAt H' p c ns t r := ⟨s _ _ P.at_, s _ _ P.cells, P.len, P.t0, P.r0⟩
section
variable {H : Hp} {p c : Addr} {ns : List Int} {t r : Int}
theorem dg_rest (P : PenAt H p c ns t r) : DGet H p (.str "rest") (some (.int r)) := .inl ⟨_, .inr "rest", .inl P.at_, rfl, rfl⟩
theorem dg_turn (P : PenAt H p c ns t r) : DGet H p (.str "turn") (some (.int t)) := .inl ⟨_, .inr "turn", .inl P.at_, rfl, rfl⟩
theorem dg_cells (P : PenAt H p c ns t r) : DGet H p (.str "cells") (some (.ref c)) := .inl ⟨_, .inr "cells", .inl P.at_, rfl, rfl⟩
theorem dp_turn (P : PenAt H p c ns t r) (z : Int) : DPut H p (.str "turn") (.int z) (upd H p (.dK (penK c z r))) := .inl ⟨_, .inr "turn", P.at_, rfl, small1000 (by show 3 ≤ 1000; decide), rfl⟩
theorem dp_rest (P : PenAt H p c ns t r) (z : Int) : DPut H p (.str "rest") (.int z) (upd H p (.dK (penK c t z))) := .inl ⟨_, .inr "rest", P.at_, rfl, small1000 (by show 3 ≤ 1000; decide), rfl⟩
end
theorem canInts : ∀ ns : List Int, PyData.canLayAll0 (ns.map PyData.int) = true
  | [] => by simp only [List.map_nil, PyData.canLayAll0]
  | n :: ns => by simp [PyData.canLayAll0, PyData.canLay0, canInts ns]
theorem depthInts : ∀ ns : List Int, PyData.depthAll (ns.map PyData.int) = 0
  | [] => by simp only [List.map_nil, PyData.depthAll]
  | n :: ns => by simp [PyData.depthAll, PyData.depth, depthInts ns]
theorem shapedInts (ns : List Int) : SeqAt.shaped (.list (ns.map PyData.int)) = true := by
  unfold SeqAt.shaped
  rw [Bool.and_eq_true]
  refine ⟨by simp only [PyData.canLay0]; exact canInts ns, decide_eq_true ?_⟩
  simp only [PyData.depth, depthInts]
  omega
theorem dpInts {K : PySem.W.Frag} {H : Hp} : ∀ ns : List Int, DpAll K H (ns.map V.int) (ns.map PyData.int)
  | [] => .nil
  | n :: ns => .cons (.int n) (dpInts ns)
theorem eqvNil (ns : List Int) : PyData.eqv (.list (ns.map PyData.int)) (.list []) = ns.isEmpty := by
  cases ns with
  | nil => rfl
  | cons n ns => rfl
/-- a cell -/
theorem atCell {ns : List Int} {k : Int} (h0 : 0 ≤ k) (h : k < (ns.length : Int)) : ∃ v : Int, atI (ns.map V.int) k = some (.int v) := by
  have hk : k.toNat < ns.length := by omega
  have ek : k = ((k.toNat : Nat) : Int) := by omega
  have q : atI (ns.map V.int) ((k.toNat : Nat) : Int) = some (.int ns[k.toNat]) := atI_nat (by rw [List.getElem?_map, List.getElem?_eq_getElem hk] <;> rfl)
  rw [← ek] at q
  exact ⟨_, q⟩
def primes : List Int := [2147483647, 2147483629, 2147483587, 2147483579, 2147483563]
theorem atPrime {k : Int} (h0 : 0 ≤ k) (h : k < 5) : ∃ v : Int, atI (primes.map V.int) k = some (.int v) ∧ 2147483563 ≤ v ∧ v ≤ 2147483647 := by
  rcases (show k = 0 ∨ k = 1 ∨ k = 2 ∨ k = 3 ∨ k = 4 by omega) with rfl | rfl | rfl | rfl | rfl
  · exact ⟨2147483647, rfl, by decide, by decide⟩
  · exact ⟨2147483629, rfl, by decide, by decide⟩
  · exact ⟨2147483587, rfl, by decide, by decide⟩
  · exact ⟨2147483579, rfl, by decide, by decide⟩
  · exact ⟨2147483563, rfl, by decide, by decide⟩

theorem mulOk {a q j : Int} (h : 0 < q) (h2 : q ≤ 2147483647) : CMul (a % q) j := by
  have h3 := Int.emod_nonneg a (show q ≠ 0 by omega)
  have h4 := Int.emod_lt_of_pos a h
  left
  constructor <;> omega

/-! ### promises -/
/-- _law_draw: a number below many; the pen goes on -/
def spDraw : Sp := fun vs H Q _ => ∃ (p c : Addr) (ns : List Int) (t r m : Int), vs = [.ref p, .int m] ∧ PenAt H p c ns t r ∧ t ≤ 1000000000 ∧ 1 ≤ m ∧ m ≤ 1000000000 ∧
  ∀ (v t' r' : Int) (H' : Hp), 0 ≤ v → v < m → t' ≤ t + 1 → PenAt H' p c ns t' r' → Sb p H H' → Q (.int v) H'
structure Blt (mg : Str → Option Value) : Prop where
  len : mg "len" = none
  abs : mg "abs" = none
  list : mg "list" = none
  tuple : mg "tuple" = none
  dict : mg "dict" = none
  isinstance : mg "isinstance" = none
  range : mg "range" = none
  repr : mg "repr" = none
section
variable {P : Program} {w : World} {K : PySem.W.Frag} {mg : Str → Option Value} {base : Heap}
theorem scDraw : FnScope ["_law_pen_here", "_law_many", "_law_digit", "_law_turn", "_law_cell", "_law_primes", "_law_prime", "_law_mixed"] ["_law_pen_here", "_law_many"] (defScope sDraw) := ⟨rfl, rfl, rfl, by decide +kernel, rfl, by decide +kernel, by decide +kernel⟩
set_option maxHeartbeats 4000000 in
theorem ok_draw {f : Addr} {fd : FuncData} (F : Fun K "_law_draw" "_law_draw" sDraw f fd) (B : Blt mg) : FnOk P w K mg base CX0 1 f fd ["_law_pen_here", "_law_many"] spDraw := by
  refine F.ok scDraw (fun vs H Q E h => ?_) (fun cdv A outer s H vs Q E hr h => ?_)
  · obtain ⟨p, c, ns, t, r, m, rfl, _⟩ := h
    rfl
  obtain ⟨p, c, ns, t, r, m, rfl, pen, ht, hm1, hm2, k⟩ := h
  have hu := hu_of hr
  refine ⟨_, pss_cons (ps_if (pt_cmpR op_gt (pe_dget hu (pv 0) pe_str (fun _ _ => rfl)) pe_int (nomark _))
      (pss_cons (ps_set (i := 2) scDraw.nd rfl (.inl rfl) (pe_op op_mod (pe_dget hu (pv 0) pe_str (fun _ _ => rfl)) (pv 1)))
      (pss_cons (ps_dput hu (pv 0) pe_str (pe_op op_fdiv (pe_dget hu (pv 0) pe_str (fun _ _ => rfl)) (pv 1)) rfl)
      (pss_one (ps_ret (pv 2))))) pss_nil) <|
    pss_cons (ps_set (i := 3) scDraw.nd rfl (.inl rfl) (pe_dget hu (pv 0) pe_str (fun _ _ => rfl))) <|
    pss_cons (ps_dput hu (pv 0) pe_str (pe_op op_add (pv 3) pe_int) rfl) <|
    pss_cons (ps_set (i := 4) scDraw.nd rfl (.inl rfl) (pe_op op_add (pe_op op_mul pe_int (pv 3)) pe_int)) <|
    pss_cons (ps_if (pt_cmpR (op_neD hr.units) (pe_dget hu (pv 0) pe_str (fun _ _ => rfl)) (pe_lst pa_nil) (nomark _))
      (pss_one (ps_set (i := 4) scDraw.nd rfl (.inl rfl) (pe_ix ix_list (pe_dget hu (pv 0) pe_str (fun _ _ => rfl)) (pe_op op_mod (pv 3) (pe_callB call_len_seq (by rfl) B.len PySem.boot_len (pa_cons (pe_dget hu (pv 0) pe_str (fun _ _ => rfl)) pa_nil))) (fun _ _ => rfl)))) pss_nil) <|
    pss_cons (ps_if (PW.pt (pw_and (pt_cmpR op_lt (pv 3) (pe_callB call_len_seq (by rfl) B.len PySem.boot_len (pa_cons (pe_dget hu (pv 0) pe_str (fun _ _ => rfl)) pa_nil)) (nomark _))
        (pw_and1 (pt_cmpR op_ge (pe_callB call_abs (by rfl) B.abs (by decide +kernel) (pa_cons (pv 4) pa_nil)) (pe_op op_pow pe_int pe_int) (nomark _)))))
      (pss_cons (ps_dput hu (pv 0) pe_str (pe_op op_fdiv (pe_op op_sub (pe_callB call_abs (by rfl) B.abs (by decide +kernel) (pa_cons (pv 4) pa_nil)) (pe_op op_pow pe_int pe_int)) (pv 1)) rfl)
      (pss_one (ps_ret (pe_op op_mod (pe_op op_sub (pe_callB call_abs (by rfl) B.abs (by decide +kernel) (pa_cons (pv 4) pa_nil)) (pe_op op_pow pe_int pe_int)) (pv 1))))) pss_nil) <|
    pss_cons (ps_set (i := 5) scDraw.nd rfl (.inl rfl) (pe_lst (pa_cons pe_int (pa_cons pe_int (pa_cons pe_int (pa_cons pe_int (pa_cons pe_int pa_nil))))))) <|
    pss_cons (ps_set (i := 6) scDraw.nd rfl (.inl rfl) (pe_ix ix_list (pv 5) (pe_op op_mod (pv 3) pe_int) (fun _ _ => rfl))) <|
    pss_cons (ps_set (i := 7) scDraw.nd rfl (.inl rfl) (pe_op op_mod (pe_op op_add (pe_op op_add (pe_op op_mul (pe_op op_mod (pv 4) (pv 6)) pe_int) (pe_op op_mul (pe_op op_mul pe_int (pv 3)) (pv 3))) pe_int) (pv 6))) <|
    pss_cons (ps_set (i := 7) scDraw.nd rfl (.inl rfl) (pe_op op_mod (pe_op op_mul (pv 7) (pe_op op_add (pv 7) pe_int)) (pe_ix ix_list (pv 5) (pe_op op_mod (pe_op op_add (pv 3) pe_int) pe_int) (fun _ _ => rfl)))) <|
    pss_one (ps_ret (pe_op op_mod (pe_op op_fdiv (pe_op op_mod (pe_op op_mul (pv 7) (pv 7)) pe_int) pe_int) (pv 1))), ?_⟩
  -- is something left
  refine ⟨_, rfl, p, _, rfl, dg_rest pen, _, _, rfl, rfl, _, rfl, ?_⟩
  refine ite2 (fun cz => ?_) (fun cz => ?_)
  · have r1 := of_decide_eq_true cz
    refine ⟨_, rfl, p, _, rfl, dg_rest pen, _, rfl, _, _, rfl, rfl, (show (0 : Int) < m by omega), ?_⟩
    refine ⟨_, rfl, p, _, rfl, dg_rest pen, _, rfl, _, _, rfl, rfl, (show 0 < m ∧ m < 1073741824 from ⟨by omega, by omega⟩), _, rfl, p, _, rfl, dp_rest pen _, ?_⟩
    refine ⟨_, rfl, ?_⟩
    exact k _ t (r / m) _ (Int.emod_nonneg _ (by omega)) (Int.emod_lt_of_pos _ (by omega)) (by omega) (pen.upd pen.t0 (Int.ediv_nonneg pen.r0 (by omega))) (Sb.upd _)
  -- a turn more
  refine ⟨_, rfl, p, _, rfl, dg_turn pen, ?_⟩
  refine ⟨_, rfl, _, _, rfl, rfl, _, rfl, p, _, rfl, dp_turn pen _, ?_⟩
  have pen1 := pen.upd (t' := t + 1) (r' := r) (by have := pen.t0; omega) pen.r0
  have s1 : Sb p H (upd H p (.dK (penK c (t + 1) r))) := Sb.upd _
  refine ⟨_, rfl, _, _, rfl, rfl, (by left; constructor <;> decide), _, _, rfl, rfl, ?_⟩
  refine ⟨_, rfl, p, _, rfl, dg_cells pen1, (by show 0 ≤ sizeLine; decide), fun e1 he1 => ?_⟩
  -- are there cells
  have c1 : c ≠ e1 := ne_of_none pen1.cells he1
  have n1 : Same (upd H p (.dK (penK c (t + 1) r))) (upd (upd H p (.dK (penK c (t + 1) r))) e1 (.lst [])) := sameNew he1 _
  have pen2 := pen1.same n1
  refine ⟨.list (ns.map PyData.int), .list [], .lst (SqL.of pen2.cells) (dpInts ns), .lst (SqL.of upd_same) .nil, shapedInts ns, shapedInts [], _, rfl, ?_⟩
  rw [eqvNil]
  have s2 : Sb p H (upd (upd H p (.dK (penK c (t + 1) r))) e1 (.lst [])) := s1.trans (.same n1)
  generalize upd (upd H p (.dK (penK c (t + 1) r))) e1 (.lst []) = H2 at pen2 s2 ⊢
  have hl : (ns.map V.int).length = ns.length := List.length_map _
  have ht0 := pen.t0
  refine ite2 (fun cy => ?w1) (fun cy => ?w2)
  case' w1 =>
    have hne : 0 < ns.length := by
      cases ns with
      | nil => simp at cy
      | cons n ns => simp
    have hb0 : 0 ≤ t % (ns.length : Int) := Int.emod_nonneg _ (by omega)
    have hb1 : t % (ns.length : Int) < (ns.length : Int) := Int.emod_lt_of_pos _ (by omega)
    obtain ⟨z, hz⟩ := atCell hb0 hb1
    refine ⟨_, rfl, p, _, rfl, dg_cells pen2, _, rfl, _, rfl, p, _, rfl, dg_cells pen2, c, _, rfl, .inl (SqL.of pen2.cells), _, _, rfl, rfl, (by show (0 : Int) < (((ns.map V.int).length : Nat) : Int); rw [hl]; omega), ?_⟩
    refine ⟨c, _, _, _, rfl, rfl, SqL.of pen2.cells, (by rw [hl]; exact hz), ?_⟩
  all_goals
    -- a great cell
    refine ⟨_, rfl, _, rfl, p, _, rfl, dg_cells pen2, c, _, rfl, .inl (SqL.of pen2.cells), _, _, rfl, rfl, _, rfl, ?_⟩
    refine ite2 (fun cx => ?_) (fun cx => ?_)
    · refine ⟨_, rfl, _, rfl, _, _, rfl, rfl, ⟨by decide, by decide, by decide⟩, _, _, rfl, rfl, _, rfl, ?_⟩
      refine ite2 (fun cw => ?_) (fun cw => ?_)
      · have cw' := of_decide_eq_true cw
        refine ⟨_, rfl, _, rfl, _, _, rfl, rfl, ⟨by decide, by decide, by decide⟩, _, _, rfl, rfl, _, rfl, _, _, rfl, rfl, (show 0 < m ∧ m < 1073741824 from ⟨by omega, by omega⟩), _, rfl, p, _, rfl, dp_rest pen2 _, ?_⟩
        refine ⟨_, rfl, _, rfl, _, _, rfl, rfl, ⟨by decide, by decide, by decide⟩, _, _, rfl, rfl, _, rfl, _, _, rfl, rfl, (show (0 : Int) < m by omega), ?_⟩
        refine k _ (t + 1) _ _ (Int.emod_nonneg _ (by omega)) (Int.emod_lt_of_pos _ (by omega)) (by omega) (pen2.upd (by omega) (Int.ediv_nonneg (by omega) (by omega))) (s2.trans (Sb.upd _))
      · refine ⟨(by show 5 ≤ sizeLine; decide), fun e2 he2 => ?_⟩
        have n2 : Same H2 (upd H2 e2 (.lst (primes.map V.int))) := sameNew he2 _
        obtain ⟨q1, hq1, g1, g2⟩ := atPrime (k := t % 5) (by omega) (by omega)
        obtain ⟨q2, hq2, g3, g4⟩ := atPrime (k := (t + 2) % 5) (by omega) (by omega)
        refine ⟨_, rfl, _, rfl, _, _, rfl, rfl, (by show (0 : Int) < 5; decide), e2, primes.map V.int, _, _, rfl, rfl, SqL.of upd_same, hq1, ?_⟩
        refine ⟨_, rfl, _, rfl, _, _, rfl, rfl, (show (0 : Int) < q1 by omega), _, _, rfl, rfl, (by right; constructor <;> decide), _, rfl, _, _, rfl, rfl, (by left; constructor <;> decide), _, rfl, _, _, rfl, rfl, (by right; constructor <;> omega), _, _, rfl, rfl, _, _, rfl, rfl, _, rfl, _, _, rfl, rfl, (show (0 : Int) < q1 by omega), ?_⟩
        refine ⟨_, rfl, _, rfl, _, _, rfl, rfl, _, _, rfl, rfl, mulOk (by omega) g2, _, rfl, _, rfl, _, _, rfl, rfl, _, _, rfl, rfl, (by show (0 : Int) < 5; decide), e2, primes.map V.int, _, _, rfl, rfl, SqL.of upd_same, hq2, _, _, rfl, rfl, (show (0 : Int) < q2 by omega), ?_⟩
        refine ⟨_, rfl, _, rfl, _, _, rfl, rfl, mulOk (by omega) g4, _, _, rfl, rfl, (by show (0 : Int) < 2147483549; decide), _, _, rfl, rfl, ⟨by decide, by decide⟩, _, rfl, _, _, rfl, rfl, (show (0 : Int) < m by omega), ?_⟩
        exact k _ (t + 1) r _ (Int.emod_nonneg _ (by omega)) (Int.emod_lt_of_pos _ (by omega)) (by omega) (pen2.same n2) (s2.trans (.same n2))
    · refine ⟨(by show 5 ≤ sizeLine; decide), fun e2 he2 => ?_⟩
      have n2 : Same H2 (upd H2 e2 (.lst (primes.map V.int))) := sameNew he2 _
      obtain ⟨q1, hq1, g1, g2⟩ := atPrime (k := t % 5) (by omega) (by omega)
      obtain ⟨q2, hq2, g3, g4⟩ := atPrime (k := (t + 2) % 5) (by omega) (by omega)
      refine ⟨_, rfl, _, rfl, _, _, rfl, rfl, (by show (0 : Int) < 5; decide), e2, primes.map V.int, _, _, rfl, rfl, SqL.of upd_same, hq1, ?_⟩
      refine ⟨_, rfl, _, rfl, _, _, rfl, rfl, (show (0 : Int) < q1 by omega), _, _, rfl, rfl, (by right; constructor <;> decide), _, rfl, _, _, rfl, rfl, (by left; constructor <;> decide), _, rfl, _, _, rfl, rfl, (by right; constructor <;> omega), _, _, rfl, rfl, _, _, rfl, rfl, _, rfl, _, _, rfl, rfl, (show (0 : Int) < q1 by omega), ?_⟩
      refine ⟨_, rfl, _, rfl, _, _, rfl, rfl, _, _, rfl, rfl, mulOk (by omega) g2, _, rfl, _, rfl, _, _, rfl, rfl, _, _, rfl, rfl, (by show (0 : Int) < 5; decide), e2, primes.map V.int, _, _, rfl, rfl, SqL.of upd_same, hq2, _, _, rfl, rfl, (show (0 : Int) < q2 by omega), ?_⟩
      refine ⟨_, rfl, _, rfl, _, _, rfl, rfl, mulOk (by omega) g4, _, _, rfl, rfl, (by show (0 : Int) < 2147483549; decide), _, _, rfl, rfl, ⟨by decide, by decide⟩, _, rfl, _, _, rfl, rfl, (show (0 : Int) < m by omega), ?_⟩
      exact k _ (t + 1) r _ (Int.emod_nonneg _ (by omega)) (Int.emod_lt_of_pos _ (by omega)) (by omega) (pen2.same n2) (s2.trans (.same n2))
end
end Pk
namespace Pk
open PySem L2
/-- what _law_odd picks from -/
def odds : List PyData :=
  [.none, .bool true, .bool false, .int 0, .int 1, .int (-1), .int (10 ^ 18), .int (10 ^ 20), .int (-10 ^ 59), .str "", .str "0", .str "a", .str "least", .tuple [], .tuple [.int 0], .list [], .list [.int 0], .dict []] ++
  [.tuple [.none], .tuple [.str "a", .int 0], .tuple [.str "a", .str "least", .int 0], .tuple [.tuple [.str "a", .str "least", .int 0]], .list [.tuple [.str "a", .str "least", .int 0]], .dict [(.str "a", .int 0)], .tuple [.tuple []]] ++
  [.tuple [.tuple [], .tuple []], .tuple [.str "one", .tuple [.str "a", .str "least", .int 0], .tuple [.str "a", .str "most", .int 0]], .tuple [.str "off", .str "a", .str "b", .int 0]]
/-- _law_pen: a new pen -/
def spPen (K : PySem.W.Frag) : Sp := fun vs H Q _ => ∃ (a : Addr) (ns : List Int), vs = [.ref a] ∧ SqL K H a (ns.map V.int) ∧ ns.length ≤ 63 ∧
  ∀ (p c : Addr) (ns' : List Int) (H' : Hp), PenAt H' p c ns' 0 0 → Same H H' → Q (.ref p) H'
/-- _law_pick of a list -/
def spPick : Sp := fun vs H Q _ => ∃ (p c l : Addr) (ns : List Int) (t r : Int) (xs : List V), vs = [.ref p, .ref l] ∧ PenAt H p c ns t r ∧ t ≤ 1000000000 ∧ H l = some (.lst xs) ∧ 1 ≤ xs.length ∧ xs.length ≤ 1000000 ∧
  ∀ (i : Nat) (x : V) (t' r' : Int) (H' : Hp), xs[i]? = some x → t' ≤ t + 1 → PenAt H' p c ns t' r' → Sb p H H' → Q x H'
/-- _law_odd -/
def spOdd : Sp := fun vs H Q _ => ∃ (p c : Addr) (ns : List Int) (t r : Int), vs = [.ref p] ∧ PenAt H p c ns t r ∧ t ≤ 1000000000 ∧
  ∀ (x : V) (d : PyData) (t' r' : Int) (H' : Hp), d ∈ odds → Tr (del H' p) x d → t' ≤ t + 1 → PenAt H' p c ns t' r' → Sb p H H' → Q x H'
section
variable {P : Program} {w : World} {K : PySem.W.Frag} {mg : Str → Option Value} {base : Heap}
theorem cutInts (ns : List Int) (lo hi : Option Int) : ∃ ms : List Int, cutV (ns.map V.int) lo hi = ms.map V.int ∧ ms.length ≤ ns.length := by
  have e : cutV (ns.map V.int) lo hi = ((ns.drop (HT.sIx (ns.map V.int).length 0 lo)).take (HT.sIx (ns.map V.int).length (ns.map V.int).length hi - HT.sIx (ns.map V.int).length 0 lo)).map V.int := by
    unfold cutV
    simp only [List.map_take, List.map_drop]
  refine ⟨_, e, ?_⟩
  simp only [List.length_take, List.length_drop]
  omega
theorem scPen : FnScope ["_law_script"] ["_law_script"] (defScope sPen) := ⟨rfl, rfl, rfl, by decide +kernel, rfl, by decide +kernel, by decide +kernel⟩
theorem ok_pen {f : Addr} {fd : FuncData} (F : Fun K "_law_pen" "_law_pen" sPen f fd) (B : Blt mg) : FnOk P w K mg base CX0 1 f fd ["_law_script"] (spPen K) := by
  refine F.ok scPen (fun vs H Q E h => ?_) (fun cdv A outer s H vs Q E hr h => ?_)
  · obtain ⟨a, ns, rfl, _⟩ := h
    rfl
  obtain ⟨a, ns, rfl, hS, hl, k⟩ := h
  refine ⟨_, pss_one (ps_ret (pe_disp (pps_cons pe_str (pe_callTy call_list_of (by rfl) B.list (by decide +kernel) (pa_cons (pe_slice sl_list (pv 0) po_none (po_some pe_int)) pa_nil)) (pps_cons pe_str pe_int (pps_cons pe_str pe_int pps_nil))) (by rfl) (by rfl) (fun z => by cases z) (by show 3 ≤ 15; decide))), ?_⟩
  intro p hp
  have s1 : Same H (upd H p (.dK [])) := sameNew hp _
  obtain ⟨ms, em, hm⟩ := cutInts ns none (some 63)
  refine ⟨_, rfl, 63, rfl, a, _, rfl, s1.seq hS, fun q hq => ?_⟩
  have s2 := sameNew hq (.lst (cutV (ns.map V.int) none (some 63)))
  refine ⟨q, _, rfl, .inl (SqL.of upd_same), fun c hc => ?_⟩
  have s3 := sameNew hc (.lst (cutV (ns.map V.int) none (some 63)))
  have e0 := s3 _ _ (s2 _ _ (upd_same (H := H) (a := p) (o := HO.dK [])))
  have cp : c ≠ p := fun z => by
    rw [z, s2 _ _ (upd_same (H := H) (a := p) (o := HO.dK []))] at hc
    cases hc
  refine ⟨e0, [(Sum.inr "cells", .ref c), (Sum.inr "turn", .int 0), (Sum.inr "rest", .int 0)], rfl, (by show 3 ≤ 15; decide), ?_⟩
  refine k p c ms _ ⟨?_, ?_, by omega, by omega, by omega⟩ fun b o e => ?_
  · rw [upd_same]
    rfl
  · rw [upd_ne cp, upd_same, em]
  · rw [upd_ne (ne_of_none e hp)]
    exact s3 _ _ (s2 _ _ (s1 _ _ e))
theorem scPick : FnScope ["_law_pen_here", "_law_some"] ["_law_pen_here", "_law_some"] (defScope sPick) := ⟨rfl, rfl, rfl, by decide +kernel, rfl, by decide +kernel, by decide +kernel⟩
theorem ok_pick {f g : Addr} {fd gd : FuncData} (F : Fun K "_law_pick" "_law_pick" sPick f fd) (G : FnOk P w K mg base CX0 1 g gd ["_law_pen_here", "_law_many"] spDraw) (bG : Binds K gd ["_law_pen_here", "_law_many"] []) (kG : PySem.W.keepIn K (.ref g) = true) (mG : mg "_law_draw" = some (.ref g)) (B : Blt mg) :
    FnOk P w K mg base CX0 2 f fd ["_law_pen_here", "_law_some"] spPick := by
  refine F.ok scPick (fun vs H Q E h => ?_) (fun cdv A outer s H vs Q E hr h => ?_)
  · obtain ⟨p, c, l, ns, t, r, xs, rfl, _⟩ := h
    rfl
  obtain ⟨p, c, l, ns, t, r, xs, rfl, pen, ht, hl, l1, l2, k⟩ := h
  refine ⟨_, pss_one (ps_ret (pe_ix ix_list (pv 1) (pe_call G hr rfl mG kG bG .nil pass0 (pa_cons (pv 0) (pa_cons (pe_callB call_len_seq (by rfl) B.len PySem.boot_len (pa_cons (pv 1) pa_nil)) pa_nil))) (fun _ _ => rfl))), ?_⟩
  have lp : l ≠ p := ne_of hl pen.at_ (by intro z; cases z)
  refine ⟨_, rfl, _, rfl, _, rfl, l, _, rfl, .inl (SqL.of hl), p, c, ns, t, r, _, rfl, pen, ht, (by omega), (by omega), fun v t' r' H' v0 v1 ht' pen' sb => ?_⟩
  have hv : v.toNat < xs.length := by omega
  have ev : v = ((v.toNat : Nat) : Int) := by omega
  have q : atI xs ((v.toNat : Nat) : Int) = some xs[v.toNat] := atI_nat (List.getElem?_eq_getElem hv)
  rw [← ev] at q
  exact ⟨l, xs, v, _, rfl, rfl, SqL.of (sb.to lp hl), q, k v.toNat _ t' r' H' (List.getElem?_eq_getElem hv) ht' pen' sb⟩
theorem scOdd : FnScope ["_law_pen_here", "_law_some"] ["_law_pen_here"] (defScope sOdd) := ⟨rfl, rfl, rfl, by decide +kernel, rfl, by decide +kernel, by decide +kernel⟩
theorem ok_odd {f g : Addr} {fd gd : FuncData} (F : Fun K "_law_odd" "_law_odd" sOdd f fd) (G : FnOk P w K mg base CX0 2 g gd ["_law_pen_here", "_law_some"] spPick) (bG : Binds K gd ["_law_pen_here", "_law_some"] []) (kG : PySem.W.keepIn K (.ref g) = true) (mG : mg "_law_pick" = some (.ref g)) :
    FnOk P w K mg base CX0 3 f fd ["_law_pen_here"] spOdd := by
  refine F.ok scOdd (fun vs H Q E h => ?_) (fun cdv A outer s H vs Q E hr h => ?_)
  · obtain ⟨p, c, ns, t, r, rfl, _⟩ := h
    rfl
  obtain ⟨p, c, ns, t, r, rfl, pen, ht, k⟩ := h
  refine ⟨_, pss_cons (ps_set (i := 1) scOdd.nd rfl (.inl rfl) (pd_lst
      (pd_cons (pd_non pe_non) <| pd_cons (pd_bl pe_bl) <| pd_cons (pd_bl pe_bl) <| pd_cons (pd_int pe_int) <| pd_cons (pd_int pe_int) <| pd_cons (pd_int (pd_neg pe_int)) <|
       pd_cons (pd_int (pd_pow pe_int pe_int)) <| pd_cons (pd_int (pd_pow pe_int pe_int)) <| pd_cons (pd_int (pd_neg (pd_pow pe_int pe_int))) <|
       pd_cons (pd_str pe_str) <| pd_cons (pd_str pe_str) <| pd_cons (pd_str pe_str) <| pd_cons (pd_str pe_str) <| pd_cons (pd_tup pd_nil) <| pd_cons (pd_tup (pd_cons (pd_int pe_int) pd_nil)) <|
       pd_cons (pd_lst pd_nil) <| pd_cons (pd_lst (pd_cons (pd_int pe_int) pd_nil)) <| pd_cons pd_d0 pd_nil))) <|
    pss_cons (ps_set (i := 1) scOdd.nd rfl (.inl rfl) (pe_op op_cat (pv 1) (pd_lst
      (pd_cons (pd_tup (pd_cons (pd_non pe_non) pd_nil)) <| pd_cons (pd_tup (pd_cons (pd_str pe_str) (pd_cons (pd_int pe_int) pd_nil))) <|
       pd_cons (pd_tup (pd_cons (pd_str pe_str) (pd_cons (pd_str pe_str) (pd_cons (pd_int pe_int) pd_nil)))) <|
       pd_cons (pd_tup (pd_cons (pd_tup (pd_cons (pd_str pe_str) (pd_cons (pd_str pe_str) (pd_cons (pd_int pe_int) pd_nil)))) pd_nil)) <|
       pd_cons (pd_lst (pd_cons (pd_tup (pd_cons (pd_str pe_str) (pd_cons (pd_str pe_str) (pd_cons (pd_int pe_int) pd_nil)))) pd_nil)) <|
       pd_cons (pd_d1 pe_str pe_int) <| pd_cons (pd_tup (pd_cons (pd_tup pd_nil) pd_nil)) pd_nil)))) <|
    pss_one (ps_ret (pe_call G hr rfl mG kG bG .nil pass0 (pa_cons (pv 0) (pa_cons (pe_op op_cat (pv 1) (pd_lst
      (pd_cons (pd_tup (pd_cons (pd_tup pd_nil) (pd_cons (pd_tup pd_nil) pd_nil))) <|
       pd_cons (pd_tup (pd_cons (pd_str pe_str) (pd_cons (pd_tup (pd_cons (pd_str pe_str) (pd_cons (pd_str pe_str) (pd_cons (pd_int pe_int) pd_nil)))) (pd_cons (pd_tup (pd_cons (pd_str pe_str) (pd_cons (pd_str pe_str) (pd_cons (pd_int pe_int) pd_nil)))) pd_nil)))) <|
       pd_cons (pd_tup (pd_cons (pd_str pe_str) (pd_cons (pd_str pe_str) (pd_cons (pd_str pe_str) (pd_cons (pd_int pe_int) pd_nil))))) pd_nil))) pa_nil)))), ?_⟩
  intro v1 H1 s1 r1
  obtain ⟨a1, xs1, rfl, h1, t1⟩ := r1.isList
  have z1 := t1.length
  refine ⟨_, rfl, fun v2 H2 s2 r2 => ?_⟩
  obtain ⟨a2, xs2, rfl, h2, t2⟩ := r2.isList
  have z2 := t2.length
  refine ⟨a1, a2, xs1, xs2, rfl, rfl, s2 _ _ (newP_all _ _ h1), newP_all _ _ h2, small (by rw [z1, z2]; decide), fun a3 n3 => ?_⟩
  have s3 := sameNew n3 (.lst (xs1 ++ xs2))
  refine ⟨_, rfl, _, rfl, fun v4 H4 s4 r4 => ?_⟩
  obtain ⟨a4, xs4, rfl, h4, t4⟩ := r4.isList
  have z4 := t4.length
  have h3 := s4 _ _ (upd_same (H := H2) (a := a3) (o := .lst (xs1 ++ xs2)))
  refine ⟨a3, a4, xs1 ++ xs2, xs4, rfl, rfl, h3, newP_all _ _ h4, small (by rw [List.length_append, z1, z2, z4]; decide), fun a5 n5 => ?_⟩
  have s5 := sameNew n5 (.lst (xs1 ++ xs2 ++ xs4))
  have sA : Same H (upd H4 a5 (.lst (xs1 ++ xs2 ++ xs4))) := s1.trans (s2.trans (s3.trans (s4.trans s5)))
  have tt : TrAll (newP H (upd H4 a5 (.lst (xs1 ++ xs2 ++ xs4)))) (xs1 ++ xs2 ++ xs4) odds := by
    refine TrAll.append (TrAll.append (t1.same (newP_grow (s2.trans (s3.trans (s4.trans s5))))) (t2.same ?_)) (t4.same ?_)
    · exact (newP_back s1).trans (newP_grow (s3.trans (s4.trans s5)))
    · exact (newP_back (s1.trans (s2.trans s3))).trans (newP_grow s5)
  refine ⟨p, c, a5, ns, t, r, _, rfl, pen.same sA, ht, upd_same, (by rw [List.length_append, List.length_append, z1, z2, z4]; decide), (by rw [List.length_append, List.length_append, z1, z2, z4]; decide), fun i x t' r' H' hx ht' pen' sb => ?_⟩
  obtain ⟨d, hd, hT⟩ := tt.get hx
  refine k x d t' r' H' (List.mem_of_getElem? hd) ?_ ht' pen' ((Sb.same sA).trans sb)
  exact (hT.same (newP_del pen.at_)).same sb
end
end Pk
namespace Pk
open PySem L2
mutual
/-- data that kept copies: short, its dicts flat -/
def okD : PyData → Bool
  | .int _ | .str _ | .none | .bool _ => true
  | .list xs | .tuple xs => decide (xs.length ≤ 1000) && okAll xs
  | .dict es => decide (es.length ≤ 1000) && plainAll (es.map (·.2))
def okAll : List PyData → Bool
  | [] => true
  | x :: xs => okD x && okAll xs
end
theorem okAll_get : ∀ {ds : List PyData} {i : Nat} {d : PyData}, okAll ds = true → ds[i]? = some d → okD d = true
  | [], i, d, _, h => by simp at h
  | x :: xs, 0, d, e, h => by
    cases (show some x = some d from h)
    rw [okAll, Bool.and_eq_true] at e
    exact e.1
  | x :: xs, i + 1, d, e, h => by
    rw [okAll, Bool.and_eq_true] at e
    exact okAll_get (i := i) e.2 h
theorem depth_get : ∀ {ds : List PyData} {i : Nat} {d : PyData}, ds[i]? = some d → d.depth ≤ PyData.depthAll ds
  | [], i, d, h => by simp at h
  | x :: xs, 0, d, h => by
    cases (show some x = some d from h)
    simp only [PyData.depthAll]
    omega
  | x :: xs, i + 1, d, h => by
    have q := depth_get (i := i) (ds := xs) h
    simp only [PyData.depthAll]
    omega
theorem take_more {α : Type} {ds : List α} {i : Nat} {d : α} (h : ds[i]? = some d) : ds.take (i + 1) = ds.take i ++ [d] := by
  rw [List.take_succ, h]
  rfl
theorem Tr.plain {H H' : Hp} {v : V} {d : PyData} (t : Tr H v d) (h : plainD d = true) : Tr H' v d := by
  cases t with
  | non => exact .non
  | bl b => exact .bl b
  | int i => exact .int i
  | str x => exact .str x
  | lst _ _ => cases h
  | tup _ _ => cases h
  | dct _ _ _ _ => cases h
theorem TrAll.plain {H H' : Hp} : ∀ {vs : List V} {ds : List PyData}, TrAll H vs ds → plainAll ds = true → TrAll H' vs ds
  | _, _, .nil, _ => .nil
  | _, _, .cons h t, e => by
    rw [plainAll, Bool.and_eq_true] at e
    exact .cons (h.plain e.1) (TrAll.plain t e.2)
theorem Tr.det {H H' : Hp} {v z : V} {d : PyData} (t : Tr H v d) (u : Tr H' z d) (h : plainD d = true) : z = v := by
  cases t with
  | non => cases u; rfl
  | bl b => cases u; rfl
  | int i => cases u; rfl
  | str x => cases u; rfl
  | lst _ _ => cases h
  | tup _ _ => cases h
  | dct _ _ _ _ => cases h
theorem plain_get : ∀ {ds : List PyData} {i : Nat} {d : PyData}, plainAll ds = true → ds[i]? = some d → plainD d = true
  | [], i, d, _, h => by simp at h
  | x :: xs, 0, d, e, h => by
    cases (show some x = some d from h)
    rw [plainAll, Bool.and_eq_true] at e
    exact e.1
  | x :: xs, i + 1, d, e, h => by
    rw [plainAll, Bool.and_eq_true] at e
    exact plain_get (i := i) e.2 h
theorem plain_ok : ∀ {d : PyData}, plainD d = true → okD d = true ∧ d.depth = 0
  | .none, _ => ⟨by simp only [okD], by simp only [PyData.depth]⟩
  | .bool _, _ => ⟨by simp only [okD], by simp only [PyData.depth]⟩
  | .int _, _ => ⟨by simp only [okD], by simp only [PyData.depth]⟩
  | .str _, _ => ⟨by simp only [okD], by simp only [PyData.depth]⟩
  | .list _, h => by cases h
  | .tuple _, h => by cases h
  | .dict _, h => by cases h
theorem valV_at {k : Key} {v : V} : ∀ {kvs : List (Key × V)} {i : Nat}, (kvs.map (·.1)).Nodup → kvs[i]? = some (k, v) → valV kvs k = some v
  | [], i, _, h => by simp at h
  | (k', v') :: r, 0, nd, h => by
    cases (show some (k', v') = some (k, v) from h)
    unfold valV
    rw [List.find?_cons_of_pos (by simp)]
    rfl
  | (k', v') :: r, i + 1, nd, h => by
    have h : r[i]? = some (k, v) := h
    simp only [List.map_cons, List.nodup_cons] at nd
    have hk : k ∈ r.map (·.1) := List.mem_map.mpr ⟨(k, v), List.mem_of_getElem? h, rfl⟩
    have ne : ¬ k' = k := fun z => nd.1 (z ▸ hk)
    have ih := valV_at nd.2 h
    unfold valV at ih ⊢
    rw [List.find?_cons_of_neg (by simpa using ne)]
    exact ih
theorem valV_no {k : Key} : ∀ {kvs : List (Key × V)}, k ∉ kvs.map (·.1) → valV kvs k = none
  | [], _ => rfl
  | (k', v') :: r, h => by
    rw [List.map_cons, List.mem_cons, not_or] at h
    have ih := valV_no h.2
    unfold valV at ih ⊢
    rw [List.find?_cons_of_neg (by simpa using fun z : k' = k => h.1 z.symm)]
    exact ih
theorem take_no {k : Key} {v : V} {kvs : List (Key × V)} {i : Nat} (nd : (kvs.map (·.1)).Nodup) (h : kvs[i]? = some (k, v)) : k ∉ (kvs.take i).map (·.1) := by
  have e : (kvs.take (i + 1)).map (·.1) = (kvs.take i).map (·.1) ++ [k] := by rw [take_more h, List.map_append]; rfl
  have n2 : ((kvs.take (i + 1)).map (·.1)).Nodup := by
    rw [List.map_take]
    exact nd.sublist (List.take_sublist _ _)
  rw [e, List.nodup_append] at n2
  exact fun z => n2.2.2 k z k (by simp) rfl
/-- kept: a new one, of the same data -/
def spKept (n : Nat) : Sp := fun vs H Q _ => ∃ (x : V) (d : PyData), vs = [x] ∧ Tr H x d ∧ d.depth < n ∧ okD d = true ∧ ∀ (y : V) (H' : Hp), Same H H' → Tr (newP H H') y d → Q y H'
/-- a list that grows at D, of things that were made since -/
structure Grow (H : Hp) (D : Addr) (H2 : Hp) (acc : List V) (ds : List PyData) : Prop where
  new : H D = none
  at_ : H2 D = some (.lst acc)
  same : Same H H2
  all : TrAll (del (newP H H2) D) acc ds
theorem Grow.start {H : Hp} {D : Addr} (h : H D = none) : Grow H D (upd H D (.lst [])) [] [] := ⟨h, upd_same, sameNew h _, .nil⟩
theorem Grow.more {H H2 H3 : Hp} {D : Addr} {acc : List V} {ds : List PyData} {y : V} {d : PyData} (g : Grow H D H2 acc ds) (s : Same H2 H3) (t : Tr (newP H2 H3) y d) : Grow H D (upd H3 D (.lst (acc ++ [y]))) (acc ++ [y]) (ds ++ [d]) := by
  have k : ∀ b o, b ≠ D → H3 b = some o → (upd H3 D (.lst (acc ++ [y]))) b = some o := fun b o hb e => by rw [upd_ne hb]; exact e
  refine ⟨g.new, upd_same, fun b o e => k b o (ne_of_none e g.new) (s _ _ (g.same _ _ e)), .snoc (g.all.same fun b o e => ?_) (t.same fun b o e => ?_)⟩
  · have hb : b ≠ D := fun z => by
      rw [z, del_same] at e
      cases e
    rw [del_ne hb] at e ⊢
    obtain ⟨h1, h2⟩ := newP_some e
    rw [newP_at h1]
    exact k b o hb (s _ _ h2)
  · obtain ⟨h1, h2⟩ := newP_some e
    have hb : b ≠ D := fun z => by
      rw [z, g.at_] at h1
      cases h1
    rw [del_ne hb, newP_at (g.same.free h1)]
    exact k b o hb h2
theorem Grow.done {H H2 : Hp} {D : Addr} {acc : List V} {ds : List PyData} (g : Grow H D H2 acc ds) : Tr (newP H H2) (.ref D) (.list ds) :=
  .lst (by rw [newP_at g.new]; exact g.at_) (g.all.same delSame)
section
variable {P : Program} {w : World} {K : PySem.W.Frag} {mg : Str → Option Value} {base : Heap}
theorem scKept : FnScope ["thing", "part", "key"] ["thing"] (defScope sKept) := ⟨rfl, rfl, rfl, by decide +kernel, rfl, by decide +kernel, by decide +kernel⟩
theorem kept_none {f : Addr} {fd : FuncData} : FnOk P w K mg base CX0 0 f fd ["thing"] (spKept 0) := by
  have no : ∀ vs H Q E, ¬ spKept 0 vs H Q E := fun vs H Q E h => by
    obtain ⟨x, d, _, _, h0, _⟩ := h
    omega
  exact ⟨fun vs H Q E h => absurd h (no vs H Q E), fun A outer s H args us vs Q E _ _ _ _ h => absurd h (no vs H Q E)⟩
theorem ok_kept1 {n : Nat} {f : Addr} {fd : FuncData} (F : Fun K "kept" "kept" sKept f fd) (G : FnOk P w K mg base CX0 n f fd ["thing"] (spKept n)) (bF : Binds K fd ["thing"] []) (mF : mg "kept" = some (.ref f)) (B : Blt mg) :
    FnOk P w K mg base CX0 (n + 1) f fd ["thing"] (spKept (n + 1)) := by
  refine F.ok scKept (fun vs H Q E h => ?_) (fun cdv A outer s H vs Q E hr h => ?_)
  · obtain ⟨x, d, rfl, _⟩ := h
    rfl
  obtain ⟨x, d, rfl, hT, hn, hok, k⟩ := h
  have hu := hu_of hr
  refine ⟨_, pss_cons (ps_if (pt_val (pe_callB call_isi (by rfl) B.isinstance (by decide +kernel) (pa_cons (pv 0) (pa_cons (pe_bltn (v := .ty "list") (by rfl) B.list (by decide +kernel) rfl) pa_nil))))
      (pss_one (ps_ret (pe_lc (own := [("part", 1)]) (g := gName 1) (by rfl) scKept.nd (pi_list (pv 0)) (blkOk_by (N := ["thing", "part", "key"]) (sc := defScope sKept) (by decide +kernel)) (fun _ _ _ _ _ => pg_name (i := 1) scKept.nd rfl (Or.inl rfl)) (fun _ _ _ _ _ => pts_nil) (fun _ _ _ _ _ => pe_call G hr rfl mF F.kp bF .nil pass0 (pa_cons (pv 1) pa_nil))))) pss_nil) <|
    pss_cons (ps_if (pt_val (pe_callB call_isi (by rfl) B.isinstance (by decide +kernel) (pa_cons (pv 0) (pa_cons (pe_bltn (v := .ty "tuple") (by rfl) B.tuple (by decide +kernel) rfl) pa_nil))))
      (pss_one (ps_ret (pe_callTy call_tuple_of (by rfl) B.tuple (by decide +kernel) (pa_cons (pe_lc (own := [("part", 1)]) (g := gName 1) (by rfl) scKept.nd (pi_tup (pv 0)) (blkOk_by (N := ["thing", "part", "key"]) (sc := defScope sKept) (by decide +kernel)) (fun _ _ _ _ _ => pg_name (i := 1) scKept.nd rfl (Or.inl rfl)) (fun _ _ _ _ _ => pts_nil) (fun _ _ _ _ _ => pe_call G hr rfl mF F.kp bF .nil pass0 (pa_cons (pv 1) pa_nil))) pa_nil)))) pss_nil) <|
    pss_cons (ps_if (pt_val (pe_callB call_isi (by rfl) B.isinstance (by decide +kernel) (pa_cons (pv 0) (pa_cons (pe_bltn (v := .ty "dict") (by rfl) B.dict (by decide +kernel) rfl) pa_nil))))
      (pss_one (ps_ret (pe_lock (pe_dc (own := [("key", 2)]) (g := gName 2) (by rfl) scKept.nd (pi_keys (pv 0)) (blkOk_by (N := ["thing", "part", "key"]) (sc := defScope sKept) (by decide +kernel)) (fun _ _ _ _ _ => pg_name (i := 2) scKept.nd rfl (Or.inl rfl)) (fun _ _ _ _ _ => pts_nil) (fun _ _ _ _ _ => pv 2) (fun _ _ _ _ _ => pe_call G hr rfl mF F.kp bF .nil pass0 (pa_cons (pe_dget hu (pv 0) (pv 2) (fun _ _ => rfl)) pa_nil)))))) pss_nil) <|
    pss_one (ps_ret (pv 0)), ?_⟩
  cases hT with
  | non =>
    refine ⟨_, rfl, _, .ty "list", _, _, _, rfl, .ty _, .base .non, kit_ty (show kitB "NoneType" "list" = some false by decide +kernel), _, rfl, iteF ?_⟩
    refine ⟨_, rfl, _, .ty "tuple", _, _, _, rfl, .ty _, .base .non, kit_ty (show kitB "NoneType" "tuple" = some false by decide +kernel), _, rfl, iteF ?_⟩
    refine ⟨_, rfl, _, .ty "dict", _, _, _, rfl, .ty _, .base .non, kit_ty (show kitB "NoneType" "dict" = some false by decide +kernel), _, rfl, iteF ?_⟩
    exact ⟨_, rfl, k _ H (Same.refl _) .non⟩
  | bl b =>
    refine ⟨_, rfl, _, .ty "list", _, _, _, rfl, .ty _, .base (.bl b), kit_ty (show kitB "bool" "list" = some false by decide +kernel), _, rfl, iteF ?_⟩
    refine ⟨_, rfl, _, .ty "tuple", _, _, _, rfl, .ty _, .base (.bl b), kit_ty (show kitB "bool" "tuple" = some false by decide +kernel), _, rfl, iteF ?_⟩
    refine ⟨_, rfl, _, .ty "dict", _, _, _, rfl, .ty _, .base (.bl b), kit_ty (show kitB "bool" "dict" = some false by decide +kernel), _, rfl, iteF ?_⟩
    exact ⟨_, rfl, k _ H (Same.refl _) (.bl b)⟩
  | int i =>
    refine ⟨_, rfl, _, .ty "list", _, _, _, rfl, .ty _, .base (.int i), kit_ty (show kitB "int" "list" = some false by decide +kernel), _, rfl, iteF ?_⟩
    refine ⟨_, rfl, _, .ty "tuple", _, _, _, rfl, .ty _, .base (.int i), kit_ty (show kitB "int" "tuple" = some false by decide +kernel), _, rfl, iteF ?_⟩
    refine ⟨_, rfl, _, .ty "dict", _, _, _, rfl, .ty _, .base (.int i), kit_ty (show kitB "int" "dict" = some false by decide +kernel), _, rfl, iteF ?_⟩
    exact ⟨_, rfl, k _ H (Same.refl _) (.int i)⟩
  | str z =>
    refine ⟨_, rfl, _, .ty "list", _, _, _, rfl, .ty _, .base (.str z), kit_ty (show kitB "str" "list" = some false by decide +kernel), _, rfl, iteF ?_⟩
    refine ⟨_, rfl, _, .ty "tuple", _, _, _, rfl, .ty _, .base (.str z), kit_ty (show kitB "str" "tuple" = some false by decide +kernel), _, rfl, iteF ?_⟩
    refine ⟨_, rfl, _, .ty "dict", _, _, _, rfl, .ty _, .base (.str z), kit_ty (show kitB "str" "dict" = some false by decide +kernel), _, rfl, iteF ?_⟩
    exact ⟨_, rfl, k _ H (Same.refl _) (.str z)⟩
  | @lst a xs ds h al =>
    have hl := al.length
    simp only [okD, Bool.and_eq_true, decide_eq_true_eq] at hok
    obtain ⟨ol, oa⟩ := hok
    simp only [PyData.depth] at hn
    refine ⟨_, rfl, _, .ty "list", _, _, _, rfl, .ty _, .base (.lst h), kit_ty (show kitB "list" "list" = some true by decide +kernel), _, rfl, iteT ?_⟩
    refine ⟨_, rfl, a, rfl, ⟨_, SqL.of h⟩, fun D hD => lc_list (K := K) (a := a) (xs := xs) (fun i H2 => ∃ acc, Grow H D H2 acc (ds.take i)) ⟨[], by rw [List.take_zero]; exact Grow.start hD⟩ (fun i H2 _ ⟨acc, g⟩ => SqL.of (g.same _ _ h)) ?_ ?_⟩
    · skip
      rintro i y H2 hy ⟨acc, g⟩
      obtain ⟨d, hd, hT⟩ := al.get hy
      have dn := depth_get hd
      refine ⟨rfl, _, rfl, y, d, rfl, hT.same g.same, by omega, okAll_get oa hd, fun z H3 s3 t3 => ?_⟩
      have hi : i < xs.length := (List.getElem?_eq_some_iff.mp hy).1
      have hac : acc.length = i := by
        have z := g.all.length
        rw [List.length_take, ← al.length] at z
        omega
      refine ⟨acc, s3 _ _ g.at_, small1000 (by omega), acc ++ [z], ?_⟩
      rw [take_more hd]
      exact g.more s3 t3
    · rintro H2 ⟨acc, g⟩
      rw [hl, List.take_length] at g
      exact k _ H2 g.same g.done
  | @tup a xs ds h al =>
    have hl := al.length
    simp only [okD, Bool.and_eq_true, decide_eq_true_eq] at hok
    obtain ⟨ol, oa⟩ := hok
    simp only [PyData.depth] at hn
    refine ⟨_, rfl, _, .ty "list", _, _, _, rfl, .ty _, .base (.tup h), kit_ty (show kitB "tuple" "list" = some false by decide +kernel), _, rfl, iteF ?_⟩
    refine ⟨_, rfl, _, .ty "tuple", _, _, _, rfl, .ty _, .base (.tup h), kit_ty (show kitB "tuple" "tuple" = some true by decide +kernel), _, rfl, iteT ?_⟩
    refine ⟨_, rfl, a, rfl, ⟨_, SqT.of h⟩, fun D hD => lc_tup (K := K) (a := a) (xs := xs) (fun i H2 => ∃ acc, Grow H D H2 acc (ds.take i)) ⟨[], by rw [List.take_zero]; exact Grow.start hD⟩ (fun i H2 _ ⟨acc, g⟩ => SqT.of (g.same _ _ h)) ?_ ?_⟩
    · skip
      rintro i y H2 hy ⟨acc, g⟩
      obtain ⟨d, hd, hT⟩ := al.get hy
      have dn := depth_get hd
      refine ⟨rfl, _, rfl, y, d, rfl, hT.same g.same, by omega, okAll_get oa hd, fun z H3 s3 t3 => ?_⟩
      have hi : i < xs.length := (List.getElem?_eq_some_iff.mp hy).1
      have hac : acc.length = i := by
        have z := g.all.length
        rw [List.length_take, ← al.length] at z
        omega
      refine ⟨acc, s3 _ _ g.at_, small1000 (by omega), acc ++ [z], ?_⟩
      rw [take_more hd]
      exact g.more s3 t3
    · rintro H2 ⟨acc, g⟩
      rw [hl, List.take_length] at g
      refine ⟨D, acc, rfl, .inl ⟨SqL.of g.at_, fun l hl2 => ?_⟩⟩
      have s5 := sameNew hl2 (.tup acc)
      refine k _ _ (g.same.trans s5) (.tup (xs := acc) ?_ (g.all.same (delSame.trans (newP_grow s5))))
      rw [newP_at (g.same.free hl2), upd_same]
  | @dct a kvs es h nd ek al =>
    simp only [okD, Bool.and_eq_true, decide_eq_true_eq] at hok
    obtain ⟨ol, oa⟩ := hok
    refine ⟨_, rfl, _, .ty "list", _, _, _, rfl, .ty _, .base (.dK h), kit_ty (show kitB "dict" "list" = some false by decide +kernel), _, rfl, iteF ?_⟩
    refine ⟨_, rfl, _, .ty "tuple", _, _, _, rfl, .ty _, .base (.dK h), kit_ty (show kitB "dict" "tuple" = some false by decide +kernel), _, rfl, iteF ?_⟩
    refine ⟨_, rfl, _, .ty "dict", _, _, _, rfl, .ty _, .base (.dK h), kit_ty (show kitB "dict" "dict" = some true by decide +kernel), _, rfl, iteT ?_⟩
    refine ⟨a, _, h, trivial, fun od => ?_⟩
    have HL : ∀ b o, b ≠ a → H b = some o → (upd H a (.frz od (.dK kvs))) b = some o := fun b o hb e => by rw [upd_ne hb]; exact e
    refine ⟨_, rfl, a, od, rfl, .inl ⟨kvs, upd_same, fun D hD => ?_⟩⟩
    have aD : a ≠ D := ne_of_none upd_same hD
    have nD : H D = none := by rw [upd_ne aD.symm] at hD; exact hD
    have hn1 : 1 ≤ n := by
      simp only [PyData.depth] at hn
      omega
    refine ⟨fun i m H2 => m = kvs.length - i ∧ i ≤ kvs.length ∧ H2 D = some (.dK (kvs.take i)) ∧ Same (upd H a (.frz od (.dK kvs))) H2, ⟨kvs.length, by omega, by omega, by rw [List.take_zero]; exact upd_same, sameNew hD _⟩, ?_⟩
    rintro i m H2 ⟨rfl, hi, h2D, s2⟩
    have h2a := s2 _ _ (upd_same (H := H) (a := a) (o := HO.frz od (HO.dK kvs)))
    by_cases lt : i < kvs.length
    · refine .inr ⟨⟨h2a, lt⟩, fun H' => H' D = some (.dK (kvs.take (i + 1))) ∧ Same (upd H a (.frz od (.dK kvs))) H', fun H' q => ⟨_, by omega, rfl, by omega, q.1, q.2⟩, ?_⟩
      rintro x H' ⟨rfl, key, v, hkv, rfl⟩
      have hv : (kvs.map (·.2))[i]? = some v := by rw [List.getElem?_map, hkv]; rfl
      obtain ⟨d, hd, hT⟩ := al.get hv
      have hp := plain_get oa hd
      obtain ⟨o1, o2⟩ := plain_ok hp
      refine ⟨rfl, _, rfl, _, rfl, _, rfl, a, v, rfl, .inl ⟨kvs, key, .inr ⟨od, h2a⟩, rfl, (valV_at nd hkv).symm⟩, v, d, rfl, hT.plain hp, by omega, o1, fun z H3 s3 t3 => ?_⟩
      have ez := hT.det t3 hp
      subst ez
      refine ⟨kvs.take i, key, rfl, s3 _ _ h2D, ?_, ?_, ?_⟩
      · have z : es.length = kvs.length := by simpa using congrArg List.length ek
        rw [List.length_take]
        exact small1000 (by omega)
      · rw [upd_same, putK_new _ (valV_no (take_no nd hkv)), take_more hkv]
      · intro b o e
        rw [upd_ne (ne_of_none e hD)]
        exact s3 _ _ (s2 _ _ e)
    · have ei : i = kvs.length := by omega
      subst ei
      refine .inl ⟨⟨h2a, Nat.le_refl _⟩, h2a, ?_⟩
      rw [List.take_length] at h2D
      refine k (.ref D) _ (fun b o e => ?_) (.dct (kvs := kvs) ?_ nd ek (al.plain oa))
      · by_cases hb : b = a
        · subst hb
          rw [upd_same, ← e, h]
        · rw [upd_ne hb]
          exact s2 _ _ (HL b o hb e)
      · rw [newP_at nD, upd_ne aD.symm]
        exact h2D
theorem ok_kept {f : Addr} {fd : FuncData} (F : Fun K "kept" "kept" sKept f fd) (bF : Binds K fd ["thing"] []) (mF : mg "kept" = some (.ref f)) (B : Blt mg) : ∀ n : Nat, FnOk P w K mg base CX0 n f fd ["thing"] (spKept n)
  | 0 => kept_none
  | n + 1 => ok_kept1 F (ok_kept F bF mF B n) bF mF B
end
end Pk
namespace Pk
open PySem L2
def bmV : List Value := [.type "ValueError", .type "Exception", .type "BaseException", .type "object"]
def bmL : List Value := [.type "LookupError", .type "Exception", .type "BaseException", .type "object"]
def bmR : List Value := [.type "RuntimeError", .type "Exception", .type "BaseException", .type "object"]
/-- the field of the i-th refusal -/
def fname : Nat → Str
  | 0 => "fault"
  | 1 => "nth"
  | 2 => "row"
  | 3 => "most"
  | 4 => "strength"
  | 5 => "strength"
  | 6 => "price"
  | _ => ""
/-- the refusals as the top left them: c i is the i-th class, D stands above them -/
structure Txt (K : PySem.W.Frag) (mg : Str → Option Value) (c : Nat → Addr) (D : Addr) : Prop where
  m0 : mg "NoHouse" = some (.ref (c 0))
  m1 : mg "NoWalk" = some (.ref (c 1))
  m2 : mg "NoText" = some (.ref (c 2))
  m3 : mg "TooLong" = some (.ref (c 3))
  m4 : mg "TooStrong" = some (.ref (c 4))
  m5 : mg "Weak" = some (.ref (c 5))
  m6 : mg "Poor" = some (.ref (c 6))
  m7 : mg "NoNumbers" = some (.ref (c 7))
  m8 : mg "NoStanding" = some (.ref (c 8))
  m9 : mg "NoWish" = some (.ref (c 9))
  m10 : mg "NoWishes" = some (.ref (c 10))
  m11 : mg "NoStrength" = some (.ref (c 11))
  m12 : mg "NoPlace" = some (.ref (c 12))
  m13 : mg "NoDial" = some (.ref (c 13))
  m14 : mg "NoReason" = some (.ref (c 14))
  m15 : mg "NoBeat" = some (.ref (c 15))
  m16 : mg "NoNumber" = some (.ref (c 16))
  m17 : mg "NoHands" = some (.ref (c 17))
  m18 : mg "NoRule" = some (.ref (c 18))
  m19 : mg "NoDeed" = some (.ref (c 19))
  m20 : mg "NoPrice" = some (.ref (c 20))
  m21 : mg "NoChain" = some (.ref (c 21))
  m22 : mg "NoRow" = some (.ref (c 22))
  m23 : mg "TooWide" = some (.ref (c 23))
  m24 : mg "Never" = some (.ref (c 24))
  m25 : mg "Taken" = some (.ref (c 25))
  m26 : mg "Broken" = some (.ref (c 26))
  m27 : mg "Unlike" = some (.ref (c 27))
  m28 : mg "NothingDone" = some (.ref (c 28))
  m29 : mg "NotYet" = some (.ref (c 29))
  mD : mg "DialError" = some (.ref D)
  gV : mg "ValueError" = none
  gL : mg "LookupError" = none
  gK : mg "KeyError" = none
  gI : mg "IndexError" = none
  gR : mg "RuntimeError" = none
  gA : mg "ArithmeticError" = none
  gT : mg "TypeError" = none
  kp : ∀ i, i < 30 → PySem.W.keepIn K (.ref (c i)) = true
  ex : ∀ i, i < 30 → ExcC K (c i)
  xi : ∀ i, 7 ≤ i → i < 28 → PySem.W.excIn K (c i) bmV "ValueError.__new__" = true
  xl : PySem.W.excIn K (c 28) bmL "LookupError.__new__" = true
  xr : PySem.W.excIn K (c 29) bmR "RuntimeError.__new__" = true
  is : ∀ i j, i < 30 → j < 30 → PySem.W.kitOne K (.ref (c i)) (.ref (c j)) = some (decide (i = j))
  isD : ∀ i, i < 30 → PySem.W.kitOne K (.ref (c i)) (.ref D) = some (decide (i < 28))
  isV : ∀ i, i < 30 → PySem.W.kitOne K (.ref (c i)) (.type "ValueError") = some (decide (i < 28))
  isL : ∀ i, i < 30 → PySem.W.kitOne K (.ref (c i)) (.type "LookupError") = some (decide (i = 28))
  isR : ∀ i, i < 30 → PySem.W.kitOne K (.ref (c i)) (.type "RuntimeError") = some (decide (i = 29))
  isK : ∀ i, i < 30 → PySem.W.kitAny K (.ref (c i)) [.type "KeyError", .type "IndexError"] = some false
  isA : ∀ i, i < 30 → PySem.W.kitAny K (.ref (c i)) [.type "ArithmeticError", .type "TypeError"] = some false
  oex : ∀ i, i < 7 → OexC K (c i)
  xf : ∀ i, i < 7 → XfC K (c i)
  nof : ∀ i, i < 7 → PySem.W.findIn K (.ref (c i)) (fname i) = some none
/-- __init__: its field is a copy -/
def spInit (C : Addr) (f : Str) : Sp := fun vs H Q _ => ∃ (a : Addr) (x : V) (d : PyData), vs = [.ref a, x] ∧ H a = some (exo a C none) ∧ Tr H x d ∧ d.depth < 5 ∧ okD d = true ∧
  ∀ (dx : Addr) (y : V) (H' : Hp), H' a = some (exo a C (some dx)) → H' dx = some (exd dx [(f, y)]) → Tr H' y d → (∀ b o, b ≠ a → H b = some o → H' b = some o) → Q .non H'
section
variable {P : Program} {w : World} {K : PySem.W.Frag} {mg : Str → Option Value} {base : Heap}
theorem initSame {H H1 : Hp} {a dx : Addr} {u v o : HO} (ha : H a = some u) (n : H1 dx = none) : Same (newP H H1) (upd (upd H1 dx o) a v) := fun b z e => by
  obtain ⟨h1, h2⟩ := newP_some e
  rw [upd_ne (fun q => by rw [q, ha] at h1; cases h1), upd_ne (ne_of_none h2 n)]
  exact h2
theorem initKeep {H H1 : Hp} {a dx : Addr} {v o : HO} (s : Same H H1) (n : H1 dx = none) : ∀ b z, b ≠ a → H b = some z → (upd (upd H1 dx o) a v) b = some z := fun b z hb e => by
  rw [upd_ne hb, upd_ne (ne_of_none (s _ _ e) n)]
  exact s _ _ e
abbrev sI0 : Stmt := inClass (top 4) 0
theorem scI0 : FnScope ["self", "fault"] ["self", "fault"] (defScope sI0) := ⟨rfl, rfl, rfl, by decide +kernel, rfl, by decide +kernel, by decide +kernel⟩
theorem ok_i0 {f g C : Addr} {fd gd : FuncData} (F : Fun K "__init__" "NoHouse.__init__" sI0 f fd) (O : OexC K C) (hno : PySem.W.findIn K (.ref C) "fault" = some none) (G : FnOk P w K mg base CX0 5 g gd ["thing"] (spKept 5)) (bG : Binds K gd ["thing"] []) (kG : PySem.W.keepIn K (.ref g) = true) (mG : mg "kept" = some (.ref g)) :
    FnOk P w K mg base CX0 6 f fd ["self", "fault"] (spInit C "fault") := by
  refine F.ok scI0 (fun vs H Q E h => ?_) (fun cdv A outer s H vs Q E hr h => ?_)
  · obtain ⟨a, x, d, rfl, _⟩ := h
    rfl
  obtain ⟨a, x, d, rfl, ha, hT, hd, ho, k⟩ := h
  refine ⟨_, pss_one (ps_ost (pv 0) (pe_call G hr rfl mG kG bG .nil pass0 (pa_cons (pv 1) pa_nil))), ?_⟩
  refine ⟨_, rfl, x, d, rfl, hT, hd, ho, fun y H1 s1 t1 => ⟨_, rfl, a, C, rfl, O, hno, .inl ⟨s1 _ _ ha, fun dx ndx ne => ?_⟩⟩⟩
  exact k dx y _ upd_same (by rw [upd_ne ne, upd_same]) (t1.same (initSame ha ndx)) (initKeep s1 ndx)
abbrev sI1 : Stmt := inClass (top 9) 0
theorem scI1 : FnScope ["self", "nth"] ["self", "nth"] (defScope sI1) := ⟨rfl, rfl, rfl, by decide +kernel, rfl, by decide +kernel, by decide +kernel⟩
theorem ok_i1 {f g C : Addr} {fd gd : FuncData} (F : Fun K "__init__" "NoWalk.__init__" sI1 f fd) (O : OexC K C) (hno : PySem.W.findIn K (.ref C) "nth" = some none) (G : FnOk P w K mg base CX0 5 g gd ["thing"] (spKept 5)) (bG : Binds K gd ["thing"] []) (kG : PySem.W.keepIn K (.ref g) = true) (mG : mg "kept" = some (.ref g)) :
    FnOk P w K mg base CX0 6 f fd ["self", "nth"] (spInit C "nth") := by
  refine F.ok scI1 (fun vs H Q E h => ?_) (fun cdv A outer s H vs Q E hr h => ?_)
  · obtain ⟨a, x, d, rfl, _⟩ := h
    rfl
  obtain ⟨a, x, d, rfl, ha, hT, hd, ho, k⟩ := h
  refine ⟨_, pss_one (ps_ost (pv 0) (pe_call G hr rfl mG kG bG .nil pass0 (pa_cons (pv 1) pa_nil))), ?_⟩
  refine ⟨_, rfl, x, d, rfl, hT, hd, ho, fun y H1 s1 t1 => ⟨_, rfl, a, C, rfl, O, hno, .inl ⟨s1 _ _ ha, fun dx ndx ne => ?_⟩⟩⟩
  exact k dx y _ upd_same (by rw [upd_ne ne, upd_same]) (t1.same (initSame ha ndx)) (initKeep s1 ndx)
abbrev sI2 : Stmt := inClass (top 21) 0
theorem scI2 : FnScope ["self", "row"] ["self", "row"] (defScope sI2) := ⟨rfl, rfl, rfl, by decide +kernel, rfl, by decide +kernel, by decide +kernel⟩
theorem ok_i2 {f g C : Addr} {fd gd : FuncData} (F : Fun K "__init__" "NoText.__init__" sI2 f fd) (O : OexC K C) (hno : PySem.W.findIn K (.ref C) "row" = some none) (G : FnOk P w K mg base CX0 5 g gd ["thing"] (spKept 5)) (bG : Binds K gd ["thing"] []) (kG : PySem.W.keepIn K (.ref g) = true) (mG : mg "kept" = some (.ref g)) :
    FnOk P w K mg base CX0 6 f fd ["self", "row"] (spInit C "row") := by
  refine F.ok scI2 (fun vs H Q E h => ?_) (fun cdv A outer s H vs Q E hr h => ?_)
  · obtain ⟨a, x, d, rfl, _⟩ := h
    rfl
  obtain ⟨a, x, d, rfl, ha, hT, hd, ho, k⟩ := h
  refine ⟨_, pss_one (ps_ost (pv 0) (pe_call G hr rfl mG kG bG .nil pass0 (pa_cons (pv 1) pa_nil))), ?_⟩
  refine ⟨_, rfl, x, d, rfl, hT, hd, ho, fun y H1 s1 t1 => ⟨_, rfl, a, C, rfl, O, hno, .inl ⟨s1 _ _ ha, fun dx ndx ne => ?_⟩⟩⟩
  exact k dx y _ upd_same (by rw [upd_ne ne, upd_same]) (t1.same (initSame ha ndx)) (initKeep s1 ndx)
abbrev sI3 : Stmt := inClass (top 24) 0
theorem scI3 : FnScope ["self", "most"] ["self", "most"] (defScope sI3) := ⟨rfl, rfl, rfl, by decide +kernel, rfl, by decide +kernel, by decide +kernel⟩
theorem ok_i3 {f g C : Addr} {fd gd : FuncData} (F : Fun K "__init__" "TooLong.__init__" sI3 f fd) (O : OexC K C) (hno : PySem.W.findIn K (.ref C) "most" = some none) (G : FnOk P w K mg base CX0 5 g gd ["thing"] (spKept 5)) (bG : Binds K gd ["thing"] []) (kG : PySem.W.keepIn K (.ref g) = true) (mG : mg "kept" = some (.ref g)) :
    FnOk P w K mg base CX0 6 f fd ["self", "most"] (spInit C "most") := by
  refine F.ok scI3 (fun vs H Q E h => ?_) (fun cdv A outer s H vs Q E hr h => ?_)
  · obtain ⟨a, x, d, rfl, _⟩ := h
    rfl
  obtain ⟨a, x, d, rfl, ha, hT, hd, ho, k⟩ := h
  refine ⟨_, pss_one (ps_ost (pv 0) (pe_call G hr rfl mG kG bG .nil pass0 (pa_cons (pv 1) pa_nil))), ?_⟩
  refine ⟨_, rfl, x, d, rfl, hT, hd, ho, fun y H1 s1 t1 => ⟨_, rfl, a, C, rfl, O, hno, .inl ⟨s1 _ _ ha, fun dx ndx ne => ?_⟩⟩⟩
  exact k dx y _ upd_same (by rw [upd_ne ne, upd_same]) (t1.same (initSame ha ndx)) (initKeep s1 ndx)
abbrev sI4 : Stmt := inClass (top 25) 0
theorem scI4 : FnScope ["self", "strength"] ["self", "strength"] (defScope sI4) := ⟨rfl, rfl, rfl, by decide +kernel, rfl, by decide +kernel, by decide +kernel⟩
theorem ok_i4 {f g C : Addr} {fd gd : FuncData} (F : Fun K "__init__" "TooStrong.__init__" sI4 f fd) (O : OexC K C) (hno : PySem.W.findIn K (.ref C) "strength" = some none) (G : FnOk P w K mg base CX0 5 g gd ["thing"] (spKept 5)) (bG : Binds K gd ["thing"] []) (kG : PySem.W.keepIn K (.ref g) = true) (mG : mg "kept" = some (.ref g)) :
    FnOk P w K mg base CX0 6 f fd ["self", "strength"] (spInit C "strength") := by
  refine F.ok scI4 (fun vs H Q E h => ?_) (fun cdv A outer s H vs Q E hr h => ?_)
  · obtain ⟨a, x, d, rfl, _⟩ := h
    rfl
  obtain ⟨a, x, d, rfl, ha, hT, hd, ho, k⟩ := h
  refine ⟨_, pss_one (ps_ost (pv 0) (pe_call G hr rfl mG kG bG .nil pass0 (pa_cons (pv 1) pa_nil))), ?_⟩
  refine ⟨_, rfl, x, d, rfl, hT, hd, ho, fun y H1 s1 t1 => ⟨_, rfl, a, C, rfl, O, hno, .inl ⟨s1 _ _ ha, fun dx ndx ne => ?_⟩⟩⟩
  exact k dx y _ upd_same (by rw [upd_ne ne, upd_same]) (t1.same (initSame ha ndx)) (initKeep s1 ndx)
abbrev sI5 : Stmt := inClass (top 26) 0
theorem scI5 : FnScope ["self", "strength"] ["self", "strength"] (defScope sI5) := ⟨rfl, rfl, rfl, by decide +kernel, rfl, by decide +kernel, by decide +kernel⟩
theorem ok_i5 {f g C : Addr} {fd gd : FuncData} (F : Fun K "__init__" "Weak.__init__" sI5 f fd) (O : OexC K C) (hno : PySem.W.findIn K (.ref C) "strength" = some none) (G : FnOk P w K mg base CX0 5 g gd ["thing"] (spKept 5)) (bG : Binds K gd ["thing"] []) (kG : PySem.W.keepIn K (.ref g) = true) (mG : mg "kept" = some (.ref g)) :
    FnOk P w K mg base CX0 6 f fd ["self", "strength"] (spInit C "strength") := by
  refine F.ok scI5 (fun vs H Q E h => ?_) (fun cdv A outer s H vs Q E hr h => ?_)
  · obtain ⟨a, x, d, rfl, _⟩ := h
    rfl
  obtain ⟨a, x, d, rfl, ha, hT, hd, ho, k⟩ := h
  refine ⟨_, pss_one (ps_ost (pv 0) (pe_call G hr rfl mG kG bG .nil pass0 (pa_cons (pv 1) pa_nil))), ?_⟩
  refine ⟨_, rfl, x, d, rfl, hT, hd, ho, fun y H1 s1 t1 => ⟨_, rfl, a, C, rfl, O, hno, .inl ⟨s1 _ _ ha, fun dx ndx ne => ?_⟩⟩⟩
  exact k dx y _ upd_same (by rw [upd_ne ne, upd_same]) (t1.same (initSame ha ndx)) (initKeep s1 ndx)
abbrev sI6 : Stmt := inClass (top 27) 0
theorem scI6 : FnScope ["self", "price"] ["self", "price"] (defScope sI6) := ⟨rfl, rfl, rfl, by decide +kernel, rfl, by decide +kernel, by decide +kernel⟩
theorem ok_i6 {f g C : Addr} {fd gd : FuncData} (F : Fun K "__init__" "Poor.__init__" sI6 f fd) (O : OexC K C) (hno : PySem.W.findIn K (.ref C) "price" = some none) (G : FnOk P w K mg base CX0 5 g gd ["thing"] (spKept 5)) (bG : Binds K gd ["thing"] []) (kG : PySem.W.keepIn K (.ref g) = true) (mG : mg "kept" = some (.ref g)) :
    FnOk P w K mg base CX0 6 f fd ["self", "price"] (spInit C "price") := by
  refine F.ok scI6 (fun vs H Q E h => ?_) (fun cdv A outer s H vs Q E hr h => ?_)
  · obtain ⟨a, x, d, rfl, _⟩ := h
    rfl
  obtain ⟨a, x, d, rfl, ha, hT, hd, ho, k⟩ := h
  refine ⟨_, pss_one (ps_ost (pv 0) (pe_call G hr rfl mG kG bG .nil pass0 (pa_cons (pv 1) pa_nil))), ?_⟩
  refine ⟨_, rfl, x, d, rfl, hT, hd, ho, fun y H1 s1 t1 => ⟨_, rfl, a, C, rfl, O, hno, .inl ⟨s1 _ _ ha, fun dx ndx ne => ?_⟩⟩⟩
  exact k dx y _ upd_same (by rw [upd_ne ne, upd_same]) (t1.same (initSame ha ndx)) (initKeep s1 ndx)
end
/-- a new refusal of a copied thing -/
theorem pe_new1 {X : Cx} {C g : Addr} {gd : FuncData} {f x : Str} {e : Expr} {i : Nat} {p pos : Pos} {ps : List Str} (O : OexC X.K C) (iC : PySem.W.findIn X.K (.ref C) "__init__" = some (some (.ref g))) (tI : PySem.W.typeIn X.K (.ref g) = some (.type "function"))
    (G : FnOk X.prog X.w X.K X.mg X.base CX0 6 g gd ps (spInit C f)) (hr : Room 7 X.A) (hb : Binds X.K gd ps []) (hg : Gl X x) (hm : X.mg x = some (.ref C)) (he : PE X e (tVar i))
    (hdb : (x == ("__debug__" : Str)) = false := by decide) (hs : starEach [e] X.env = (false, eval e X.env) :: starEach [] X.env := by rfl) :
    PE X (.Call (.Name x p) [e] [] pos) (fun σ H Q => ∃ v, σ[i]? = some (some v) ∧ ∃ d, Tr H v d ∧ d.depth < 5 ∧ okD d = true ∧ ∀ (a : Addr) (y : V) (H2 : Hp), Same H H2 → Exq H2 a C [(f, y)] → Tr H2 y d → Q (.ref a) H2) := by
  refine peW (pe_mkV O iC tI G hr hb pass0 hg hm (pa_cons he pa_nil hs) hdb hs (by rfl)) fun σ H Q q => ?_
  obtain ⟨v, hv, d, t, h1, h2, k⟩ := q
  refine ⟨v, hv, by show 1 ≤ 1000; decide, fun a ha => ⟨a, v, d, rfl, upd_same, t.same (sameNew ha _), h1, h2, fun dx y H' e1 e2 t' kp => ⟨rfl, ?_⟩⟩⟩
  exact k a y H' (fun b o e => kp b o (ne_of_none e ha) (by rw [upd_ne (ne_of_none e ha)]; exact e)) (.inr ⟨dx, e1, e2⟩) t'
end Pk
namespace Pk
open PySem L2
/-! ### what is asked of an error in slot 0 -/
def tE (a C : Addr) (fs : List (Str × V)) (b : Bool) : TE := fun σ H Q => σ[0]? = some (some (.ref a)) ∧ Exq H a C fs ∧ ∀ H', Same H H' → Q (.bl b) H'
def tEs (a C : Addr) (fs : List (Str × V)) (bs : List Bool) : TA := fun σ H Q => σ[0]? = some (some (.ref a)) ∧ Exq H a C fs ∧ ∀ H', Same H H' → Q (bs.map V.bl) H'
section
variable {X : Cx} {e : Expr} {es : List Expr} {a C : Addr} {fs : List (Str × V)} {b : Bool} {bs : List Bool} {p p1 p2 pos : Pos}
theorem pes_nil : PA X [] (tEs a C fs []) := paW pa_nil fun _ H Q q => q.2.2 H (Same.refl _)
theorem pes_cons (h : PE X e (tE a C fs b)) (t : PA X es (tEs a C fs bs)) (hs : starEach (e :: es) X.env = (false, eval e X.env) :: starEach es X.env := by rfl) : PA X (e :: es) (tEs a C fs (b :: bs)) := by
  refine paW (pa_cons h t hs) fun σ H Q q => ?_
  obtain ⟨q1, q2, q3⟩ := q
  exact ⟨q1, q2, fun H1 s1 => ⟨q1, q2.same s1, fun H2 s2 => q3 H2 (s1.trans s2)⟩⟩
/-- isinstance(e, c) -/
theorem pe_asks {c : V} {u : Value} {x2 : Expr} (hm : X.mg "isinstance" = none) (hg : Gl X "isinstance") (T : ExcC X.K C) (he : PE X e (tVar 0)) (hc : PE X x2 (tC c)) (k : ClsV c u) (kit : PySem.W.kitOne X.K (.ref C) u = some b)
    (hs : starEach [e, x2] X.env = (false, eval e X.env) :: starEach [x2] X.env := by rfl) (hs2 : starEach [x2] X.env = (false, eval x2 X.env) :: starEach [] X.env := by rfl) (hpl : (backTo pos (starEach [x2] X.env)).any (·.1) = false := by rfl) :
    PE X (.Call (.Name "isinstance" p) [e, x2] [] pos) (tE a C fs b) := by
  refine peW (pe_callB call_isQ hg hm (by decide +kernel) (pa_cons he (pa_cons hc pa_nil hs2) hs) (he := hs) (hpl := hpl)) fun σ H Q q => ?_
  exact ⟨_, q.1, a, C, fs, c, u, b, rfl, q.2.1, T, k, kit, q.2.2 H (Same.refl _)⟩
/-- isinstance(e, (c, d)) -/
theorem pe_asks2 {c d : V} {u v : Value} {x2 x3 : Expr} {k0} (hm : X.mg "isinstance" = none) (hg : Gl X "isinstance") (T : ExcC X.K C) (he : PE X e (tVar 0)) (hc : PE X x2 (tC c)) (hd : PE X x3 (tC d)) (k : ClsV c u) (k' : ClsV d v) (kit : PySem.W.kitAny X.K (.ref C) [u, v] = some b)
    (hs : starEach [e, .Tuple [x2, x3] k0 p2] X.env = (false, eval e X.env) :: starEach [.Tuple [x2, x3] k0 p2] X.env := by rfl) (hs2 : starEach [.Tuple [x2, x3] k0 p2] X.env = (false, eval (.Tuple [x2, x3] k0 p2) X.env) :: starEach [] X.env := by rfl)
    (hs3 : starEach [x2, x3] X.env = (false, eval x2 X.env) :: starEach [x3] X.env := by rfl) (hs4 : starEach [x3] X.env = (false, eval x3 X.env) :: starEach [] X.env := by rfl) (hpl : (backTo pos (starEach [.Tuple [x2, x3] k0 p2] X.env)).any (·.1) = false := by rfl) :
    PE X (.Call (.Name "isinstance" p) [e, .Tuple [x2, x3] k0 p2] [] pos) (tE a C fs b) := by
  refine peW (pe_callB call_isQT hg hm (by decide +kernel) (pa_cons he (pa_cons (pe_tup (pa_cons hc (pa_cons hd pa_nil hs4) hs3)) pa_nil hs2) hs) (he := hs) (hpl := hpl)) fun σ H Q q => ?_
  refine ⟨_, q.1, (by show 2 ≤ sizeLine; decide), fun t ht => ?_⟩
  exact ⟨a, C, fs, t, [c, d], [u, v], b, rfl, q.2.1.same (sameNew ht _), T, upd_same, .cons k (.cons k' .nil), kit, q.2.2 _ (sameNew ht _)⟩
end
/-- what _law_marks tells of an error of the k-th class -/
def marksB (k : Nat) : List Bool := [decide (k = 0), decide (k = 1), decide (k = 2), decide (k = 3), decide (k = 4), decide (k = 5), decide (k = 6), decide (k = 7), decide (k = 8), decide (k = 9), decide (k = 10), decide (k = 11), decide (k = 12), decide (k = 13), decide (k = 14), decide (k = 15), decide (k = 16), decide (k = 17), decide (k = 18), decide (k = 19), decide (k = 20), decide (k = 21), decide (k = 22), decide (k = 23), decide (k = 24), decide (k = 25), decide (k = 26), decide (k = 27), decide (k = 28), decide (k = 29)]
/-- what _law_under tells of it -/
def underB (k : Nat) : List Bool := [decide (k < 28), decide (k < 28), decide (k = 28), false, decide (k = 29), false]
def spMarks (c : Nat → Addr) : Sp := fun vs H Q _ => ∃ (a : Addr) (k : Nat) (fs : List (Str × V)), vs = [.ref a] ∧ k < 30 ∧ Exq H a (c k) fs ∧ ∀ (l : Addr) (H' : Hp), Same H H' → H' l = some (.lst ((marksB k).map V.bl)) → Q (.ref l) H'
def spUnder (c : Nat → Addr) : Sp := fun vs H Q _ => ∃ (a : Addr) (k : Nat) (fs : List (Str × V)), vs = [.ref a] ∧ k < 30 ∧ Exq H a (c k) fs ∧ ∀ (l : Addr) (H' : Hp), Same H H' → H l = none → H' l = some (.lst ((underB k).map V.bl)) → Q (.ref l) H'
section
variable {P : Program} {w : World} {K : PySem.W.Frag} {mg : Str → Option Value} {base : Heap} {c : Nat → Addr} {D : Addr}
theorem scMarks : FnScope ["_law_e", "_law_some"] ["_law_e"] (defScope sMarks) := ⟨rfl, rfl, rfl, by decide +kernel, rfl, by decide +kernel, by decide +kernel⟩
theorem scUnder : FnScope ["_law_e", "_law_some"] ["_law_e"] (defScope sUnder) := ⟨rfl, rfl, rfl, by decide +kernel, rfl, by decide +kernel, by decide +kernel⟩
set_option maxHeartbeats 4000000 in
theorem ok_marks {f : Addr} {fd : FuncData} (F : Fun K "_law_marks" "_law_marks" sMarks f fd) (T : Txt K mg c D) (B : Blt mg) : FnOk P w K mg base CX0 1 f fd ["_law_e"] (spMarks c) := by
  refine F.ok scMarks (fun vs H Q E h => ?_) (fun cdv A outer s H vs Q E hr h => ?_)
  · obtain ⟨a, k, fs, rfl, _⟩ := h
    rfl
  obtain ⟨a, k, fs, rfl, hk, hE, q⟩ := h
  refine ⟨_, pss_cons (ps_set (i := 1) scMarks.nd rfl (.inl rfl) (pe_lst (pes_cons (pe_asks (a := a) (fs := fs) B.isinstance (by rfl) (T.ex k hk) (pv 0) (pe_glob (v := .ref (c 0)) (by rfl) T.m0 rfl) (.own _) (T.is k 0 hk (by decide))) <| pes_cons (pe_asks (a := a) (fs := fs) B.isinstance (by rfl) (T.ex k hk) (pv 0) (pe_glob (v := .ref (c 1)) (by rfl) T.m1 rfl) (.own _) (T.is k 1 hk (by decide))) <| pes_cons (pe_asks (a := a) (fs := fs) B.isinstance (by rfl) (T.ex k hk) (pv 0) (pe_glob (v := .ref (c 2)) (by rfl) T.m2 rfl) (.own _) (T.is k 2 hk (by decide))) <| pes_cons (pe_asks (a := a) (fs := fs) B.isinstance (by rfl) (T.ex k hk) (pv 0) (pe_glob (v := .ref (c 3)) (by rfl) T.m3 rfl) (.own _) (T.is k 3 hk (by decide))) <| pes_nil))) <|
    pss_cons (ps_set (i := 1) scMarks.nd rfl (.inl rfl) (pe_op op_cat (pv 1) (pe_lst (pes_cons (pe_asks (a := a) (fs := fs) B.isinstance (by rfl) (T.ex k hk) (pv 0) (pe_glob (v := .ref (c 4)) (by rfl) T.m4 rfl) (.own _) (T.is k 4 hk (by decide))) <| pes_cons (pe_asks (a := a) (fs := fs) B.isinstance (by rfl) (T.ex k hk) (pv 0) (pe_glob (v := .ref (c 5)) (by rfl) T.m5 rfl) (.own _) (T.is k 5 hk (by decide))) <| pes_cons (pe_asks (a := a) (fs := fs) B.isinstance (by rfl) (T.ex k hk) (pv 0) (pe_glob (v := .ref (c 6)) (by rfl) T.m6 rfl) (.own _) (T.is k 6 hk (by decide))) <| pes_cons (pe_asks (a := a) (fs := fs) B.isinstance (by rfl) (T.ex k hk) (pv 0) (pe_glob (v := .ref (c 7)) (by rfl) T.m7 rfl) (.own _) (T.is k 7 hk (by decide))) <| pes_nil)))) <|
    pss_cons (ps_set (i := 1) scMarks.nd rfl (.inl rfl) (pe_op op_cat (pv 1) (pe_lst (pes_cons (pe_asks (a := a) (fs := fs) B.isinstance (by rfl) (T.ex k hk) (pv 0) (pe_glob (v := .ref (c 8)) (by rfl) T.m8 rfl) (.own _) (T.is k 8 hk (by decide))) <| pes_cons (pe_asks (a := a) (fs := fs) B.isinstance (by rfl) (T.ex k hk) (pv 0) (pe_glob (v := .ref (c 9)) (by rfl) T.m9 rfl) (.own _) (T.is k 9 hk (by decide))) <| pes_cons (pe_asks (a := a) (fs := fs) B.isinstance (by rfl) (T.ex k hk) (pv 0) (pe_glob (v := .ref (c 10)) (by rfl) T.m10 rfl) (.own _) (T.is k 10 hk (by decide))) <| pes_cons (pe_asks (a := a) (fs := fs) B.isinstance (by rfl) (T.ex k hk) (pv 0) (pe_glob (v := .ref (c 11)) (by rfl) T.m11 rfl) (.own _) (T.is k 11 hk (by decide))) <| pes_nil)))) <|
    pss_cons (ps_set (i := 1) scMarks.nd rfl (.inl rfl) (pe_op op_cat (pv 1) (pe_lst (pes_cons (pe_asks (a := a) (fs := fs) B.isinstance (by rfl) (T.ex k hk) (pv 0) (pe_glob (v := .ref (c 12)) (by rfl) T.m12 rfl) (.own _) (T.is k 12 hk (by decide))) <| pes_cons (pe_asks (a := a) (fs := fs) B.isinstance (by rfl) (T.ex k hk) (pv 0) (pe_glob (v := .ref (c 13)) (by rfl) T.m13 rfl) (.own _) (T.is k 13 hk (by decide))) <| pes_cons (pe_asks (a := a) (fs := fs) B.isinstance (by rfl) (T.ex k hk) (pv 0) (pe_glob (v := .ref (c 14)) (by rfl) T.m14 rfl) (.own _) (T.is k 14 hk (by decide))) <| pes_cons (pe_asks (a := a) (fs := fs) B.isinstance (by rfl) (T.ex k hk) (pv 0) (pe_glob (v := .ref (c 15)) (by rfl) T.m15 rfl) (.own _) (T.is k 15 hk (by decide))) <| pes_nil)))) <|
    pss_cons (ps_set (i := 1) scMarks.nd rfl (.inl rfl) (pe_op op_cat (pv 1) (pe_lst (pes_cons (pe_asks (a := a) (fs := fs) B.isinstance (by rfl) (T.ex k hk) (pv 0) (pe_glob (v := .ref (c 16)) (by rfl) T.m16 rfl) (.own _) (T.is k 16 hk (by decide))) <| pes_cons (pe_asks (a := a) (fs := fs) B.isinstance (by rfl) (T.ex k hk) (pv 0) (pe_glob (v := .ref (c 17)) (by rfl) T.m17 rfl) (.own _) (T.is k 17 hk (by decide))) <| pes_cons (pe_asks (a := a) (fs := fs) B.isinstance (by rfl) (T.ex k hk) (pv 0) (pe_glob (v := .ref (c 18)) (by rfl) T.m18 rfl) (.own _) (T.is k 18 hk (by decide))) <| pes_cons (pe_asks (a := a) (fs := fs) B.isinstance (by rfl) (T.ex k hk) (pv 0) (pe_glob (v := .ref (c 19)) (by rfl) T.m19 rfl) (.own _) (T.is k 19 hk (by decide))) <| pes_nil)))) <|
    pss_cons (ps_set (i := 1) scMarks.nd rfl (.inl rfl) (pe_op op_cat (pv 1) (pe_lst (pes_cons (pe_asks (a := a) (fs := fs) B.isinstance (by rfl) (T.ex k hk) (pv 0) (pe_glob (v := .ref (c 20)) (by rfl) T.m20 rfl) (.own _) (T.is k 20 hk (by decide))) <| pes_cons (pe_asks (a := a) (fs := fs) B.isinstance (by rfl) (T.ex k hk) (pv 0) (pe_glob (v := .ref (c 21)) (by rfl) T.m21 rfl) (.own _) (T.is k 21 hk (by decide))) <| pes_cons (pe_asks (a := a) (fs := fs) B.isinstance (by rfl) (T.ex k hk) (pv 0) (pe_glob (v := .ref (c 22)) (by rfl) T.m22 rfl) (.own _) (T.is k 22 hk (by decide))) <| pes_cons (pe_asks (a := a) (fs := fs) B.isinstance (by rfl) (T.ex k hk) (pv 0) (pe_glob (v := .ref (c 23)) (by rfl) T.m23 rfl) (.own _) (T.is k 23 hk (by decide))) <| pes_nil)))) <|
    pss_cons (ps_set (i := 1) scMarks.nd rfl (.inl rfl) (pe_op op_cat (pv 1) (pe_lst (pes_cons (pe_asks (a := a) (fs := fs) B.isinstance (by rfl) (T.ex k hk) (pv 0) (pe_glob (v := .ref (c 24)) (by rfl) T.m24 rfl) (.own _) (T.is k 24 hk (by decide))) <| pes_cons (pe_asks (a := a) (fs := fs) B.isinstance (by rfl) (T.ex k hk) (pv 0) (pe_glob (v := .ref (c 25)) (by rfl) T.m25 rfl) (.own _) (T.is k 25 hk (by decide))) <| pes_cons (pe_asks (a := a) (fs := fs) B.isinstance (by rfl) (T.ex k hk) (pv 0) (pe_glob (v := .ref (c 26)) (by rfl) T.m26 rfl) (.own _) (T.is k 26 hk (by decide))) <| pes_cons (pe_asks (a := a) (fs := fs) B.isinstance (by rfl) (T.ex k hk) (pv 0) (pe_glob (v := .ref (c 27)) (by rfl) T.m27 rfl) (.own _) (T.is k 27 hk (by decide))) <| pes_nil)))) <|
    pss_one (ps_ret (pe_op op_cat (pv 1) (pe_lst (pes_cons (pe_asks (a := a) (fs := fs) B.isinstance (by rfl) (T.ex k hk) (pv 0) (pe_glob (v := .ref (c 28)) (by rfl) T.m28 rfl) (.own _) (T.is k 28 hk (by decide))) <| pes_cons (pe_asks (a := a) (fs := fs) B.isinstance (by rfl) (T.ex k hk) (pv 0) (pe_glob (v := .ref (c 29)) (by rfl) T.m29 rfl) (.own _) (T.is k 29 hk (by decide))) <| pes_nil)))), ?_⟩
  refine ⟨rfl, hE, fun H1 s1 => ⟨by show 4 ≤ sizeLine; decide, fun p1 n1 => ?_⟩⟩
  have g1 := fun o => s1.trans (sameNew n1 o)
  refine ⟨_, rfl, rfl, hE.same (g1 _), fun J1 r1 => ⟨by show 4 ≤ sizeLine; decide, fun q1 m1 => ⟨p1, q1, _, _, rfl, rfl, (sameNew m1 _) _ _ (r1 _ _ upd_same), upd_same, by show 4 + 4 ≤ sizeLine; decide, fun p2 n2 => ?_⟩⟩⟩
  have g2 := fun o => (g1 _).trans (r1.trans ((sameNew m1 _).trans (sameNew n2 o)))
  refine ⟨_, rfl, rfl, hE.same (g2 _), fun J2 r2 => ⟨by show 4 ≤ sizeLine; decide, fun q2 m2 => ⟨p2, q2, _, _, rfl, rfl, (sameNew m2 _) _ _ (r2 _ _ upd_same), upd_same, by show 8 + 4 ≤ sizeLine; decide, fun p3 n3 => ?_⟩⟩⟩
  have g3 := fun o => (g2 _).trans (r2.trans ((sameNew m2 _).trans (sameNew n3 o)))
  refine ⟨_, rfl, rfl, hE.same (g3 _), fun J3 r3 => ⟨by show 4 ≤ sizeLine; decide, fun q3 m3 => ⟨p3, q3, _, _, rfl, rfl, (sameNew m3 _) _ _ (r3 _ _ upd_same), upd_same, by show 12 + 4 ≤ sizeLine; decide, fun p4 n4 => ?_⟩⟩⟩
  have g4 := fun o => (g3 _).trans (r3.trans ((sameNew m3 _).trans (sameNew n4 o)))
  refine ⟨_, rfl, rfl, hE.same (g4 _), fun J4 r4 => ⟨by show 4 ≤ sizeLine; decide, fun q4 m4 => ⟨p4, q4, _, _, rfl, rfl, (sameNew m4 _) _ _ (r4 _ _ upd_same), upd_same, by show 16 + 4 ≤ sizeLine; decide, fun p5 n5 => ?_⟩⟩⟩
  have g5 := fun o => (g4 _).trans (r4.trans ((sameNew m4 _).trans (sameNew n5 o)))
  refine ⟨_, rfl, rfl, hE.same (g5 _), fun J5 r5 => ⟨by show 4 ≤ sizeLine; decide, fun q5 m5 => ⟨p5, q5, _, _, rfl, rfl, (sameNew m5 _) _ _ (r5 _ _ upd_same), upd_same, by show 20 + 4 ≤ sizeLine; decide, fun p6 n6 => ?_⟩⟩⟩
  have g6 := fun o => (g5 _).trans (r5.trans ((sameNew m5 _).trans (sameNew n6 o)))
  refine ⟨_, rfl, rfl, hE.same (g6 _), fun J6 r6 => ⟨by show 4 ≤ sizeLine; decide, fun q6 m6 => ⟨p6, q6, _, _, rfl, rfl, (sameNew m6 _) _ _ (r6 _ _ upd_same), upd_same, by show 24 + 4 ≤ sizeLine; decide, fun p7 n7 => ?_⟩⟩⟩
  have g7 := fun o => (g6 _).trans (r6.trans ((sameNew m6 _).trans (sameNew n7 o)))
  refine ⟨_, rfl, rfl, hE.same (g7 _), fun J7 r7 => ⟨by show 2 ≤ sizeLine; decide, fun q7 m7 => ⟨p7, q7, _, _, rfl, rfl, (sameNew m7 _) _ _ (r7 _ _ upd_same), upd_same, by show 28 + 2 ≤ sizeLine; decide, fun p8 n8 => ?_⟩⟩⟩
  have g8 := fun o => (g7 _).trans (r7.trans ((sameNew m7 _).trans (sameNew n8 o)))
  exact q p8 _ (g8 _) upd_same
theorem ok_under {f : Addr} {fd : FuncData} (F : Fun K "_law_under" "_law_under" sUnder f fd) (T : Txt K mg c D) (B : Blt mg) : FnOk P w K mg base CX0 1 f fd ["_law_e"] (spUnder c) := by
  refine F.ok scUnder (fun vs H Q E h => ?_) (fun cdv A outer s H vs Q E hr h => ?_)
  · obtain ⟨a, k, fs, rfl, _⟩ := h
    rfl
  obtain ⟨a, k, fs, rfl, hk, hE, q⟩ := h
  refine ⟨_, pss_cons (ps_set (i := 1) scUnder.nd rfl (.inl rfl) (pe_lst (pes_cons (pe_asks (a := a) (fs := fs) B.isinstance (by rfl) (T.ex k hk) (pv 0) (pe_glob (v := .ref D) (by rfl) T.mD rfl) (.own _) (T.isD k hk)) <|
      pes_cons (pe_asks (a := a) (fs := fs) B.isinstance (by rfl) (T.ex k hk) (pv 0) (pe_bltn (v := .ty "ValueError") (by rfl) T.gV (by decide +kernel) rfl) (.ty _) (T.isV k hk)) <|
      pes_cons (pe_asks (a := a) (fs := fs) B.isinstance (by rfl) (T.ex k hk) (pv 0) (pe_bltn (v := .ty "LookupError") (by rfl) T.gL (by decide +kernel) rfl) (.ty _) (T.isL k hk)) pes_nil))) <|
    pss_cons (ps_set (i := 1) scUnder.nd rfl (.inl rfl) (pe_op op_cat (pv 1) (pe_lst (pes_cons (pe_asks2 (a := a) (fs := fs) B.isinstance (by rfl) (T.ex k hk) (pv 0) (pe_bltn (v := .ty "KeyError") (by rfl) T.gK (by decide +kernel) rfl) (pe_bltn (v := .ty "IndexError") (by rfl) T.gI (by decide +kernel) rfl) (.ty _) (.ty _) (T.isK k hk)) <|
      pes_cons (pe_asks (a := a) (fs := fs) B.isinstance (by rfl) (T.ex k hk) (pv 0) (pe_bltn (v := .ty "RuntimeError") (by rfl) T.gR (by decide +kernel) rfl) (.ty _) (T.isR k hk)) pes_nil)))) <|
    pss_one (ps_ret (pe_op op_cat (pv 1) (pe_lst (pes_cons (pe_asks2 (a := a) (fs := fs) B.isinstance (by rfl) (T.ex k hk) (pv 0) (pe_bltn (v := .ty "ArithmeticError") (by rfl) T.gA (by decide +kernel) rfl) (pe_bltn (v := .ty "TypeError") (by rfl) T.gT (by decide +kernel) rfl) (.ty _) (.ty _) (T.isA k hk)) pes_nil)))), ?_⟩
  refine ⟨rfl, hE, fun H1 s1 => ⟨by show 3 ≤ sizeLine; decide, fun p1 n1 => ?_⟩⟩
  have g1 := fun o => s1.trans (sameNew n1 o)
  refine ⟨_, rfl, rfl, hE.same (g1 _), fun J1 r1 => ⟨by show 2 ≤ sizeLine; decide, fun q1 m1 => ⟨p1, q1, _, _, rfl, rfl, (sameNew m1 _) _ _ (r1 _ _ upd_same), upd_same, by show 3 + 2 ≤ sizeLine; decide, fun p2 n2 => ?_⟩⟩⟩
  have g2 := fun o => (g1 _).trans (r1.trans ((sameNew m1 _).trans (sameNew n2 o)))
  refine ⟨_, rfl, rfl, hE.same (g2 _), fun J2 r2 => ⟨by show 1 ≤ sizeLine; decide, fun q2 m2 => ⟨p2, q2, _, _, rfl, rfl, (sameNew m2 _) _ _ (r2 _ _ upd_same), upd_same, by show 5 + 1 ≤ sizeLine; decide, fun p3 n3 => ?_⟩⟩⟩
  have g3 := fun o => (g2 _).trans (r2.trans ((sameNew m2 _).trans (sameNew n3 o)))
  exact q p3 _ (g3 _) (((g2 _).trans (r2.trans (sameNew m2 _))).free n3) upd_same
end
end Pk
namespace Pk
open PySem L2
/-- errors without fields, one behind the other -/
def ExL (H : Hp) : List Addr → List Addr → Prop := Paired fun a C => ∃ fs, Exq H a C fs
theorem ExL.same {H H' : Hp} {as cs : List Addr} (s : Same H H') (h : ExL H as cs) : ExL H' as cs := Paired.mapP h fun a C ⟨fs, e⟩ => ⟨fs, e.same s⟩
theorem ExL.append {H : Hp} : ∀ {as cs bs ds : List Addr}, ExL H as cs → ExL H bs ds → ExL H (as ++ bs) (cs ++ ds)
  | _, _, _, _, .nil, g => g
  | _, _, _, _, .cons h t, g => .cons h (ExL.append t g)
theorem ExL.get {H : Hp} : ∀ {as cs : List Addr} {i : Nat} {C : Addr}, ExL H as cs → cs[i]? = some C → ∃ a fs, as[i]? = some a ∧ Exq H a C fs
  | _, _, i, C, .nil, h => by simp at h
  | _, _, 0, C, .cons h t, e => by
    obtain ⟨fs, h⟩ := h
    have z := Option.some.inj (show some _ = some C from e)
    subst z
    exact ⟨_, fs, rfl, h⟩
  | _, _, i + 1, C, .cons h t, e => ExL.get (i := i) t e
def tNs (cs : List Addr) : TA := fun _ H Q => ∀ (as : List Addr) (H' : Hp), Same H H' → ExL H' as cs → Q (as.map V.ref) H'
section
variable {X : Cx} {e : Expr} {es : List Expr} {C : Addr} {cs : List Addr}
theorem pns_nil : PA X [] (tNs []) := paW pa_nil fun _ H Q q => q [] H (Same.refl _) .nil
theorem pns_cons (h : PE X e (fun σ H Q => ∀ a H', Same H H' → Exq H' a C [] → Q (.ref a) H')) (t : PA X es (tNs cs)) (hs : starEach (e :: es) X.env = (false, eval e X.env) :: starEach es X.env := by rfl) : PA X (e :: es) (tNs (C :: cs)) := by
  refine paW (pa_cons h t hs) fun σ H Q q => ?_
  intro a H1 s1 e1 as H2 s2 l2
  exact q (a :: as) H2 (s1.trans s2) (.cons ⟨_, e1.same s2⟩ l2)
end
/-- the list of classes -/
def cl (c : Nat → Addr) : List Addr := [c 0, c 1, c 2, c 3, c 4, c 5, c 6, c 7, c 8, c 9, c 10, c 11, c 12, c 13, c 14, c 15, c 16, c 17, c 18, c 19, c 20, c 21, c 22, c 23, c 24, c 25, c 26, c 27, c 28, c 29]
theorem cl_get {c : Nat → Addr} : ∀ {i : Nat}, i < 30 → (cl c)[i]? = some (c i)
  | 0, _ => rfl
  | 1, _ => rfl
  | 2, _ => rfl
  | 3, _ => rfl
  | 4, _ => rfl
  | 5, _ => rfl
  | 6, _ => rfl
  | 7, _ => rfl
  | 8, _ => rfl
  | 9, _ => rfl
  | 10, _ => rfl
  | 11, _ => rfl
  | 12, _ => rfl
  | 13, _ => rfl
  | 14, _ => rfl
  | 15, _ => rfl
  | 16, _ => rfl
  | 17, _ => rfl
  | 18, _ => rfl
  | 19, _ => rfl
  | 20, _ => rfl
  | 21, _ => rfl
  | 22, _ => rfl
  | 23, _ => rfl
  | 24, _ => rfl
  | 25, _ => rfl
  | 26, _ => rfl
  | 27, _ => rfl
  | 28, _ => rfl
  | 29, _ => rfl
  | n + 30, h => by omega
/-- the seven that bear a field -/
structure Seven (c : Nat → Addr) (H : Hp) (as : List Addr) (d : PyData) : Prop where
  len : as.length = 30
  all : ExL H as (cl c)
  seven : ∀ i, i < 7 → ∃ a y, as[i]? = some a ∧ Exq H a (c i) [(fname i, y)] ∧ Tr H y d
def spMade (c : Nat → Addr) : Sp := fun vs H Q _ => ∃ (x : V) (d : PyData), vs = [x] ∧ Tr H x d ∧ d.depth < 5 ∧ okD d = true ∧ ∀ (l : Addr) (as : List Addr) (H' : Hp), Same H H' → H' l = some (.lst (as.map V.ref)) → Seven c H' as d → Q (.ref l) H'
/-- the seven __init__ -/
structure Inits (P : Program) (w : World) (K : PySem.W.Frag) (mg : Str → Option Value) (base : Heap) (c : Nat → Addr) (g : Nat → Addr) (gd : Nat → FuncData) : Prop where
  ok0 : FnOk P w K mg base CX0 6 (g 0) (gd 0) ["self", "fault"] (spInit (c 0) "fault")
  b0 : Binds K (gd 0) ["self", "fault"] []
  i0 : PySem.W.findIn K (.ref (c 0)) "__init__" = some (some (.ref (g 0)))
  t0 : PySem.W.typeIn K (.ref (g 0)) = some (.type "function")
  ok1 : FnOk P w K mg base CX0 6 (g 1) (gd 1) ["self", "nth"] (spInit (c 1) "nth")
  b1 : Binds K (gd 1) ["self", "nth"] []
  i1 : PySem.W.findIn K (.ref (c 1)) "__init__" = some (some (.ref (g 1)))
  t1 : PySem.W.typeIn K (.ref (g 1)) = some (.type "function")
  ok2 : FnOk P w K mg base CX0 6 (g 2) (gd 2) ["self", "row"] (spInit (c 2) "row")
  b2 : Binds K (gd 2) ["self", "row"] []
  i2 : PySem.W.findIn K (.ref (c 2)) "__init__" = some (some (.ref (g 2)))
  t2 : PySem.W.typeIn K (.ref (g 2)) = some (.type "function")
  ok3 : FnOk P w K mg base CX0 6 (g 3) (gd 3) ["self", "most"] (spInit (c 3) "most")
  b3 : Binds K (gd 3) ["self", "most"] []
  i3 : PySem.W.findIn K (.ref (c 3)) "__init__" = some (some (.ref (g 3)))
  t3 : PySem.W.typeIn K (.ref (g 3)) = some (.type "function")
  ok4 : FnOk P w K mg base CX0 6 (g 4) (gd 4) ["self", "strength"] (spInit (c 4) "strength")
  b4 : Binds K (gd 4) ["self", "strength"] []
  i4 : PySem.W.findIn K (.ref (c 4)) "__init__" = some (some (.ref (g 4)))
  t4 : PySem.W.typeIn K (.ref (g 4)) = some (.type "function")
  ok5 : FnOk P w K mg base CX0 6 (g 5) (gd 5) ["self", "strength"] (spInit (c 5) "strength")
  b5 : Binds K (gd 5) ["self", "strength"] []
  i5 : PySem.W.findIn K (.ref (c 5)) "__init__" = some (some (.ref (g 5)))
  t5 : PySem.W.typeIn K (.ref (g 5)) = some (.type "function")
  ok6 : FnOk P w K mg base CX0 6 (g 6) (gd 6) ["self", "price"] (spInit (c 6) "price")
  b6 : Binds K (gd 6) ["self", "price"] []
  i6 : PySem.W.findIn K (.ref (c 6)) "__init__" = some (some (.ref (g 6)))
  t6 : PySem.W.typeIn K (.ref (g 6)) = some (.type "function")
section
variable {P : Program} {w : World} {K : PySem.W.Frag} {mg : Str → Option Value} {base : Heap} {c : Nat → Addr} {D : Addr} {g : Nat → Addr} {gd : Nat → FuncData}
theorem scMade : FnScope ["_law_thing", "_law_some"] ["_law_thing"] (defScope sMade) := ⟨rfl, rfl, rfl, by decide +kernel, rfl, by decide +kernel, by decide +kernel⟩
set_option maxHeartbeats 4000000 in
theorem ok_made {f : Addr} {fd : FuncData} (F : Fun K "_law_made" "_law_made" sMade f fd) (T : Txt K mg c D) (N : Inits P w K mg base c g gd) : FnOk P w K mg base CX0 8 f fd ["_law_thing"] (spMade c) := by
  refine F.ok scMade (fun vs H Q E h => ?_) (fun cdv A outer s H vs Q E hr h => ?_)
  · obtain ⟨x, d, rfl, _⟩ := h
    rfl
  obtain ⟨x, d, rfl, hT, hd, ho, k⟩ := h
  refine ⟨_, pss_cons (ps_set (i := 1) scMade.nd rfl (.inl rfl) (pe_lst (pa_cons (pe_new1 (T.oex 0 (by decide)) N.i0 N.t0 N.ok0 hr N.b0 (by rfl) T.m0 (pv 0)) <| pa_cons (pe_new1 (T.oex 1 (by decide)) N.i1 N.t1 N.ok1 hr N.b1 (by rfl) T.m1 (pv 0)) <| pa_cons (pe_new1 (T.oex 2 (by decide)) N.i2 N.t2 N.ok2 hr N.b2 (by rfl) T.m2 (pv 0)) <| pa_cons (pe_new1 (T.oex 3 (by decide)) N.i3 N.t3 N.ok3 hr N.b3 (by rfl) T.m3 (pv 0)) <| pa_cons (pe_new1 (T.oex 4 (by decide)) N.i4 N.t4 N.ok4 hr N.b4 (by rfl) T.m4 (pv 0)) <| pa_cons (pe_new1 (T.oex 5 (by decide)) N.i5 N.t5 N.ok5 hr N.b5 (by rfl) T.m5 (pv 0)) <| pa_cons (pe_new1 (T.oex 6 (by decide)) N.i6 N.t6 N.ok6 hr N.b6 (by rfl) T.m6 (pv 0)) <| pa_nil))) <|
    pss_cons (ps_set (i := 1) scMade.nd rfl (.inl rfl) (pe_op op_cat (pv 1) (pe_lst (pns_cons (pe_exq0 PySem.F.excBase_ValueError (T.xi 7 (by decide) (by decide)) T.m7 (T.kp 7 (by decide)) (by rfl)) <| pns_cons (pe_exq0 PySem.F.excBase_ValueError (T.xi 8 (by decide) (by decide)) T.m8 (T.kp 8 (by decide)) (by rfl)) <| pns_cons (pe_exq0 PySem.F.excBase_ValueError (T.xi 9 (by decide) (by decide)) T.m9 (T.kp 9 (by decide)) (by rfl)) <| pns_cons (pe_exq0 PySem.F.excBase_ValueError (T.xi 10 (by decide) (by decide)) T.m10 (T.kp 10 (by decide)) (by rfl)) <| pns_cons (pe_exq0 PySem.F.excBase_ValueError (T.xi 11 (by decide) (by decide)) T.m11 (T.kp 11 (by decide)) (by rfl)) <| pns_cons (pe_exq0 PySem.F.excBase_ValueError (T.xi 12 (by decide) (by decide)) T.m12 (T.kp 12 (by decide)) (by rfl)) <| pns_cons (pe_exq0 PySem.F.excBase_ValueError (T.xi 13 (by decide) (by decide)) T.m13 (T.kp 13 (by decide)) (by rfl)) <| pns_cons (pe_exq0 PySem.F.excBase_ValueError (T.xi 14 (by decide) (by decide)) T.m14 (T.kp 14 (by decide)) (by rfl)) <| pns_nil)))) <|
    pss_cons (ps_set (i := 1) scMade.nd rfl (.inl rfl) (pe_op op_cat (pv 1) (pe_lst (pns_cons (pe_exq0 PySem.F.excBase_ValueError (T.xi 15 (by decide) (by decide)) T.m15 (T.kp 15 (by decide)) (by rfl)) <| pns_cons (pe_exq0 PySem.F.excBase_ValueError (T.xi 16 (by decide) (by decide)) T.m16 (T.kp 16 (by decide)) (by rfl)) <| pns_cons (pe_exq0 PySem.F.excBase_ValueError (T.xi 17 (by decide) (by decide)) T.m17 (T.kp 17 (by decide)) (by rfl)) <| pns_cons (pe_exq0 PySem.F.excBase_ValueError (T.xi 18 (by decide) (by decide)) T.m18 (T.kp 18 (by decide)) (by rfl)) <| pns_cons (pe_exq0 PySem.F.excBase_ValueError (T.xi 19 (by decide) (by decide)) T.m19 (T.kp 19 (by decide)) (by rfl)) <| pns_cons (pe_exq0 PySem.F.excBase_ValueError (T.xi 20 (by decide) (by decide)) T.m20 (T.kp 20 (by decide)) (by rfl)) <| pns_cons (pe_exq0 PySem.F.excBase_ValueError (T.xi 21 (by decide) (by decide)) T.m21 (T.kp 21 (by decide)) (by rfl)) <| pns_cons (pe_exq0 PySem.F.excBase_ValueError (T.xi 22 (by decide) (by decide)) T.m22 (T.kp 22 (by decide)) (by rfl)) <| pns_cons (pe_exq0 PySem.F.excBase_ValueError (T.xi 23 (by decide) (by decide)) T.m23 (T.kp 23 (by decide)) (by rfl)) <| pns_nil)))) <|
    pss_one (ps_ret (pe_op op_cat (pv 1) (pe_lst (pns_cons (pe_exq0 PySem.F.excBase_ValueError (T.xi 24 (by decide) (by decide)) T.m24 (T.kp 24 (by decide)) (by rfl)) <| pns_cons (pe_exq0 PySem.F.excBase_ValueError (T.xi 25 (by decide) (by decide)) T.m25 (T.kp 25 (by decide)) (by rfl)) <| pns_cons (pe_exq0 PySem.F.excBase_ValueError (T.xi 26 (by decide) (by decide)) T.m26 (T.kp 26 (by decide)) (by rfl)) <| pns_cons (pe_exq0 PySem.F.excBase_ValueError (T.xi 27 (by decide) (by decide)) T.m27 (T.kp 27 (by decide)) (by rfl)) <| pns_cons (pe_exq0 PySem.F.excBase_LookupError T.xl T.m28 (T.kp 28 (by decide)) (by rfl)) <| pns_cons (pe_exq0 PySem.F.excBase_RuntimeError T.xr T.m29 (T.kp 29 (by decide)) (by rfl)) <| pns_nil)))), ?_⟩
  have u0 : Same H H := Same.refl _
  refine ⟨x, rfl, d, hT.same u0, hd, ho, fun a0 y0 H0 s0 e0 t0 => ?_⟩
  have u1 := u0.trans s0
  refine ⟨x, rfl, d, hT.same u1, hd, ho, fun a1 y1 H1 s1 e1 t1 => ?_⟩
  have u2 := u1.trans s1
  refine ⟨x, rfl, d, hT.same u2, hd, ho, fun a2 y2 H2 s2 e2 t2 => ?_⟩
  have u3 := u2.trans s2
  refine ⟨x, rfl, d, hT.same u3, hd, ho, fun a3 y3 H3 s3 e3 t3 => ?_⟩
  have u4 := u3.trans s3
  refine ⟨x, rfl, d, hT.same u4, hd, ho, fun a4 y4 H4 s4 e4 t4 => ?_⟩
  have u5 := u4.trans s4
  refine ⟨x, rfl, d, hT.same u5, hd, ho, fun a5 y5 H5 s5 e5 t5 => ?_⟩
  have u6 := u5.trans s5
  refine ⟨x, rfl, d, hT.same u6, hd, ho, fun a6 y6 H6 s6 e6 t6 => ?_⟩
  have u7 := u6.trans s6
  refine ⟨by show 7 ≤ sizeLine; decide, fun p1 n1 => ?_⟩
  have g1 := fun o => u7.trans (sameNew n1 o)
  refine ⟨_, rfl, fun as1 J1 r1 l1 => ⟨by rw [List.length_map, l1.length]; show 8 ≤ sizeLine; decide, fun q1 m1 => ⟨p1, q1, _, _, rfl, rfl, (sameNew m1 _) _ _ (r1 _ _ upd_same), upd_same, (by rw [List.length_map, l1.length]; show 7 + 8 ≤ sizeLine; decide), fun p2 n2 => ?_⟩⟩⟩
  have v1 := fun o => r1.trans ((sameNew m1 _).trans (sameNew n2 o))
  refine ⟨_, rfl, fun as2 J2 r2 l2 => ⟨by rw [List.length_map, l2.length]; show 9 ≤ sizeLine; decide, fun q2 m2 => ⟨p2, q2, _, _, rfl, rfl, (sameNew m2 _) _ _ (r2 _ _ upd_same), upd_same, (by rw [List.length_append, List.length_map, List.length_map, l1.length, l2.length]; show 7 + 8 + 9 ≤ sizeLine; decide), fun p3 n3 => ?_⟩⟩⟩
  have v2 := fun o => r2.trans ((sameNew m2 _).trans (sameNew n3 o))
  refine ⟨_, rfl, fun as3 J3 r3 l3 => ⟨by rw [List.length_map, l3.length]; show 6 ≤ sizeLine; decide, fun q3 m3 => ⟨p3, q3, _, _, rfl, rfl, (sameNew m3 _) _ _ (r3 _ _ upd_same), upd_same, (by rw [List.length_append, List.length_append, List.length_map, List.length_map, List.length_map, l1.length, l2.length, l3.length]; show 7 + 8 + 9 + 6 ≤ sizeLine; decide), fun p4 n4 => ?_⟩⟩⟩
  have v3 := fun o => r3.trans ((sameNew m3 _).trans (sameNew n4 o))
  have w3 := (sameNew m3 _).trans (sameNew n4 (.lst (([.ref a0, .ref a1, .ref a2, .ref a3, .ref a4, .ref a5, .ref a6] : List V) ++ as1.map V.ref ++ as2.map V.ref ++ as3.map V.ref)))
  have w2 := (v2 _).trans (v3 (.lst (([.ref a0, .ref a1, .ref a2, .ref a3, .ref a4, .ref a5, .ref a6] : List V) ++ as1.map V.ref ++ as2.map V.ref ++ as3.map V.ref)))
  have w1 := (v1 _).trans w2
  have z7 := (sameNew n1 _).trans w1
  have z6 := s6.trans z7
  have z5 := s5.trans z6
  have z4 := s4.trans z5
  have z3 := s3.trans z4
  have z2 := s2.trans z3
  have z1 := s1.trans z2
  have z0 := s0.trans z1
  have b1 := l1.length
  have b2 := l2.length
  have b3 := l3.length
  refine k p4 ([a0, a1, a2, a3, a4, a5, a6] ++ as1 ++ as2 ++ as3) _ z0 ?_ ⟨?_, ?_, ?_⟩
  · rw [upd_same, List.map_append, List.map_append, List.map_append]
    rfl
  · rw [List.length_append, List.length_append, List.length_append, b1, b2, b3]
    rfl
  · have q7 : ExL _ [a0, a1, a2, a3, a4, a5, a6] [c 0, c 1, c 2, c 3, c 4, c 5, c 6] := .cons ⟨_, e0.same z1⟩ <| .cons ⟨_, e1.same z2⟩ <| .cons ⟨_, e2.same z3⟩ <| .cons ⟨_, e3.same z4⟩ <| .cons ⟨_, e4.same z5⟩ <| .cons ⟨_, e5.same z6⟩ <| .cons ⟨_, e6.same z7⟩ .nil
    exact ((q7.append (l1.same (((sameNew m1 _).trans (sameNew n2 _)).trans w2))).append (l2.same (((sameNew m2 _).trans (sameNew n3 _)).trans (v3 _)))).append (l3.same w3)
  · intro i hi
    rcases (show i = 0 ∨ i = 1 ∨ i = 2 ∨ i = 3 ∨ i = 4 ∨ i = 5 ∨ i = 6 by omega) with rfl | rfl | rfl | rfl | rfl | rfl | rfl
    · exact ⟨a0, y0, rfl, e0.same z1, t0.same z1⟩
    · exact ⟨a1, y1, rfl, e1.same z2, t1.same z2⟩
    · exact ⟨a2, y2, rfl, e2.same z3, t2.same z3⟩
    · exact ⟨a3, y3, rfl, e3.same z4, t3.same z4⟩
    · exact ⟨a4, y4, rfl, e4.same z5, t4.same z5⟩
    · exact ⟨a5, y5, rfl, e5.same z6, t5.same z6⟩
    · exact ⟨a6, y6, rfl, e6.same z7, t6.same z7⟩
end
end Pk
namespace Pk
open PySem L2
mutual
/-- data without dicts, as the layer reads it -/
theorem Tr.dp {K : PySem.W.Frag} {H : Hp} : ∀ {v : V} {d : PyData}, Tr H v d → d.hasDict = false → Dp K H v d
  | _, _, .non, _ => .non
  | _, _, .bl b, _ => .bl b
  | _, _, .int i, _ => .int i
  | _, _, .str x, _ => .str x
  | _, _, .lst h a, e => .lst (SqL.of h) (TrAll.dp a (by simpa only [PyData.hasDict] using e))
  | _, _, .tup h a, e => .tup (SqT.of h) (TrAll.dp a (by simpa only [PyData.hasDict] using e))
  | _, _, .dct _ _ _ _, e => by simp [PyData.hasDict] at e
theorem TrAll.dp {K : PySem.W.Frag} {H : Hp} : ∀ {vs : List V} {ds : List PyData}, TrAll H vs ds → PyData.hasDictAll ds = false → DpAll K H vs ds
  | _, _, .nil, _ => .nil
  | _, _, .cons h t, e => by
    simp only [PyData.hasDictAll, Bool.or_eq_false_iff] at e
    exact .cons (h.dp e.1) (TrAll.dp t e.2)
end
/-- what the seven fields of a made list come to -/
def spFields (c : Nat → Addr) : Sp := fun vs H Q _ => ∃ (l : Addr) (as : List Addr) (d : PyData), vs = [.ref l] ∧ H l = some (.lst (as.map V.ref)) ∧ Seven c H as d ∧
  ∀ (l2 : Addr) (zs : List V) (H' : Hp), Same H H' → H' l2 = some (.lst zs) → TrAll H' zs (List.replicate 7 d) → Q (.ref l2) H'
section
variable {P : Program} {w : World} {K : PySem.W.Frag} {mg : Str → Option Value} {base : Heap} {c : Nat → Addr} {D : Addr}
theorem scFields : FnScope ["_law_some", "_law_found"] ["_law_some"] (defScope sFields) := ⟨rfl, rfl, rfl, by decide +kernel, rfl, by decide +kernel, by decide +kernel⟩
theorem atRef {as : List Addr} {i : Nat} {a : Addr} (h : as[i]? = some a) : atI (as.map V.ref) ((i : Nat) : Int) = some (.ref a) := atI_nat (by rw [List.getElem?_map, h]; rfl)
theorem ok_fields {f : Addr} {fd : FuncData} (F : Fun K "_law_fields" "_law_fields" sFields f fd) (T : Txt K mg c D) : FnOk P w K mg base CX0 1 f fd ["_law_some"] (spFields c) := by
  refine F.ok scFields (fun vs H Q E h => ?_) (fun cdv A outer s H vs Q E hr h => ?_)
  · obtain ⟨l, as, d, rfl, _⟩ := h
    rfl
  obtain ⟨l, as, d, rfl, hl, S, k⟩ := h
  refine ⟨_, pss_cons (ps_set (i := 1) scFields.nd rfl (.inl rfl) (pe_lst (pa_cons (pe_exf (pe_ix ix_list (pv 0) pe_int (fun _ _ => rfl))) <| pa_cons (pe_exf (pe_ix ix_list (pv 0) pe_int (fun _ _ => rfl))) <| pa_cons (pe_exf (pe_ix ix_list (pv 0) pe_int (fun _ _ => rfl))) <|
      pa_cons (pe_exf (pe_ix ix_list (pv 0) pe_int (fun _ _ => rfl))) <| pa_cons (pe_exf (pe_ix ix_list (pv 0) pe_int (fun _ _ => rfl))) <| pa_cons (pe_exf (pe_ix ix_list (pv 0) pe_int (fun _ _ => rfl))) pa_nil))) <|
    pss_one (ps_ret (pe_op op_cat (pv 1) (pe_lst (pa_cons (pe_exf (pe_ix ix_list (pv 0) pe_int (fun _ _ => rfl))) pa_nil)))), ?_⟩
  obtain ⟨a0, y0, h0, e0, t0⟩ := S.seven 0 (by decide)
  obtain ⟨a1, y1, h1, e1, t1⟩ := S.seven 1 (by decide)
  obtain ⟨a2, y2, h2, e2, t2⟩ := S.seven 2 (by decide)
  obtain ⟨a3, y3, h3, e3, t3⟩ := S.seven 3 (by decide)
  obtain ⟨a4, y4, h4, e4, t4⟩ := S.seven 4 (by decide)
  obtain ⟨a5, y5, h5, e5, t5⟩ := S.seven 5 (by decide)
  obtain ⟨a6, y6, h6, e6, t6⟩ := S.seven 6 (by decide)
  refine ⟨_, rfl, l, _, _, _, rfl, rfl, SqL.of hl, atRef h0, a0, c 0, _, y0, rfl, e0, T.xf 0 (by decide), T.nof 0 (by decide), rfl, ?_⟩
  refine ⟨_, rfl, l, _, _, _, rfl, rfl, SqL.of hl, atRef h1, a1, c 1, _, y1, rfl, e1, T.xf 1 (by decide), T.nof 1 (by decide), rfl, ?_⟩
  refine ⟨_, rfl, l, _, _, _, rfl, rfl, SqL.of hl, atRef h2, a2, c 2, _, y2, rfl, e2, T.xf 2 (by decide), T.nof 2 (by decide), rfl, ?_⟩
  refine ⟨_, rfl, l, _, _, _, rfl, rfl, SqL.of hl, atRef h3, a3, c 3, _, y3, rfl, e3, T.xf 3 (by decide), T.nof 3 (by decide), rfl, ?_⟩
  refine ⟨_, rfl, l, _, _, _, rfl, rfl, SqL.of hl, atRef h4, a4, c 4, _, y4, rfl, e4, T.xf 4 (by decide), T.nof 4 (by decide), rfl, ?_⟩
  refine ⟨_, rfl, l, _, _, _, rfl, rfl, SqL.of hl, atRef h5, a5, c 5, _, y5, rfl, e5, T.xf 5 (by decide), T.nof 5 (by decide), rfl, ?_⟩
  refine ⟨by show 6 ≤ sizeLine; decide, fun p1 n1 => ?_⟩
  have s1 := sameNew n1 (.lst [y0, y1, y2, y3, y4, y5])
  refine ⟨_, rfl, _, rfl, l, _, _, _, rfl, rfl, SqL.of (s1 _ _ hl), atRef h6, a6, c 6, _, y6, rfl, e6.same s1, T.xf 6 (by decide), T.nof 6 (by decide), rfl, by show 1 ≤ sizeLine; decide, fun p2 n2 => ?_⟩
  have s2 := sameNew n2 (.lst [y6])
  refine ⟨p1, p2, _, _, rfl, rfl, s2 _ _ upd_same, upd_same, by show 6 + 1 ≤ sizeLine; decide, fun p3 n3 => ?_⟩
  have s3 := sameNew n3 (.lst ([y0, y1, y2, y3, y4, y5] ++ [y6]))
  have sA := s1.trans (s2.trans s3)
  refine k p3 _ _ sA upd_same ?_
  exact .cons (t0.same sA) <| .cons (t1.same sA) <| .cons (t2.same sA) <| .cons (t3.same sA) <| .cons (t4.same sA) <| .cons (t5.same sA) <| .cons (t6.same sA) .nil
end
end Pk
namespace Pk
open PySem L2
/-! ### what is drawn -/
def goodB (d : PyData) : Bool := decide (d.depth < 5) && okD d && d.showable && (!d.hasDict || flatDict d) && decide (d.shown.length ≤ 1000)
structure Good (d : PyData) : Prop where
  dep : d.depth < 5
  ok : okD d = true
  sh : d.showable = true
  dict : d.hasDict = false ∨ flatDict d = true
  len : d.shown.length ≤ 1000
theorem good_of {d : PyData} (h : goodB d = true) : Good d := by
  unfold goodB at h
  simp only [Bool.and_eq_true, decide_eq_true_eq, Bool.or_eq_true, Bool.not_eq_true'] at h
  exact ⟨h.1.1.1.1, h.1.1.1.2, h.1.1.2, h.1.2, h.2⟩
theorem good_odds : odds.all goodB = true := by decide +kernel
theorem good_odd {d : PyData} (h : d ∈ odds) : Good d := good_of (List.all_eq_true.mp good_odds d h)
theorem good_house : Good (.tuple [.str "house"]) := good_of (by decide +kernel)
theorem good_dial {v : Int} (h0 : 0 ≤ v) (h1 : v < 12) : Good (.tuple [.str "dial", .int v]) := by
  have key : ∀ n : Fin 12, goodB (.tuple [.str "dial", .int ((n.val : Nat) : Int)]) = true := by decide +kernel
  have z := key ⟨v.toNat, by omega⟩
  have e : ((v.toNat : Nat) : Int) = v := by omega
  rw [show ((⟨v.toNat, by omega⟩ : Fin 12).val : Int) = v from e] at z
  exact good_of z
theorem good_int {v : Int} (h0 : 0 ≤ v) (h1 : v < 1000000000) : Good (.int v) := by
  refine ⟨by simp only [PyData.depth]; decide, by simp only [okD], ?_, .inl (by simp only [PyData.hasDict]), Nat.le_trans (PyData.shown_int_le (by omega)) (by decide)⟩
  simp only [decide_eq_true_eq, PyData.showable]
  by_cases z : v.natAbs = 0
  · rw [z]
    decide
  · rw [Nat.log2_lt z]
    exact Nat.lt_of_lt_of_le (show v.natAbs < 2 ^ 30 by omega) (Nat.pow_le_pow_right (by decide) (by decide))
/-! ### seven times the same -/
theorem shown7 (d : PyData) : PyData.shownAll (List.replicate 7 d) = List.replicate 7 d.shown := by simp [List.replicate, PyData.shownAll]
theorem Good.rep {d : PyData} (g : Good d) : (PyData.hasDictAll (List.replicate 7 d) = false ∨ ∀ e ∈ List.replicate 7 d, flatDict e = true) ∧ PyData.showableAll (List.replicate 7 d) = true ∧ PyData.depthAll (List.replicate 7 d) ≤ 60 ∧ (PyData.shown (.list (List.replicate 7 d))).length ≤ sizeLine := by
  refine ⟨?_, ?_, ?_, ?_⟩
  · rcases g.dict with h | h
    · left
      simp [List.replicate, PyData.hasDictAll, h]
    · right
      intro e he
      rw [List.eq_of_mem_replicate he]
      exact h
  · simp [List.replicate, PyData.showableAll, g.sh]
  · have z := g.dep
    simp [List.replicate, PyData.depthAll]
    omega
  · have z := listText_len_le (PyData.shownAll (List.replicate 7 d))
    have l := g.len
    simp only [PyData.shown]
    rw [shown7] at z ⊢
    simp only [List.map_replicate, List.length_replicate, List.sum_replicate_nat] at z
    have q := sizeLine_eq
    omega
end Pk
namespace Pk
open PySem L2
/-- all that the law calls -/
structure Defs (P : Program) (w : World) (K : PySem.W.Frag) (mg : Str → Option Value) (base : Heap) (c : Nat → Addr) where
  aPen : Addr
  dPen : FuncData
  oPen : FnOk P w K mg base CX0 1 aPen dPen ["_law_script"] (spPen K)
  bPen : Binds K dPen ["_law_script"] []
  kPen : PySem.W.keepIn K (.ref aPen) = true
  mPen : mg "_law_pen" = some (.ref aPen)
  aDraw : Addr
  dDraw : FuncData
  oDraw : FnOk P w K mg base CX0 1 aDraw dDraw ["_law_pen_here", "_law_many"] spDraw
  bDraw : Binds K dDraw ["_law_pen_here", "_law_many"] []
  kDraw : PySem.W.keepIn K (.ref aDraw) = true
  mDraw : mg "_law_draw" = some (.ref aDraw)
  aPick : Addr
  dPick : FuncData
  oPick : FnOk P w K mg base CX0 2 aPick dPick ["_law_pen_here", "_law_some"] spPick
  bPick : Binds K dPick ["_law_pen_here", "_law_some"] []
  kPick : PySem.W.keepIn K (.ref aPick) = true
  mPick : mg "_law_pick" = some (.ref aPick)
  aOdd : Addr
  dOdd : FuncData
  oOdd : FnOk P w K mg base CX0 3 aOdd dOdd ["_law_pen_here"] spOdd
  bOdd : Binds K dOdd ["_law_pen_here"] []
  kOdd : PySem.W.keepIn K (.ref aOdd) = true
  mOdd : mg "_law_odd" = some (.ref aOdd)
  aMade : Addr
  dMade : FuncData
  oMade : FnOk P w K mg base CX0 8 aMade dMade ["_law_thing"] (spMade c)
  bMade : Binds K dMade ["_law_thing"] []
  kMade : PySem.W.keepIn K (.ref aMade) = true
  mMade : mg "_law_made" = some (.ref aMade)
  aMarks : Addr
  dMarks : FuncData
  oMarks : FnOk P w K mg base CX0 1 aMarks dMarks ["_law_e"] (spMarks c)
  bMarks : Binds K dMarks ["_law_e"] []
  kMarks : PySem.W.keepIn K (.ref aMarks) = true
  mMarks : mg "_law_marks" = some (.ref aMarks)
  aUnder : Addr
  dUnder : FuncData
  oUnder : FnOk P w K mg base CX0 1 aUnder dUnder ["_law_e"] (spUnder c)
  bUnder : Binds K dUnder ["_law_e"] []
  kUnder : PySem.W.keepIn K (.ref aUnder) = true
  mUnder : mg "_law_under" = some (.ref aUnder)
  aFields : Addr
  dFields : FuncData
  oFields : FnOk P w K mg base CX0 1 aFields dFields ["_law_some"] (spFields c)
  bFields : Binds K dFields ["_law_some"] []
  kFields : PySem.W.keepIn K (.ref aFields) = true
  mFields : mg "_law_fields" = some (.ref aFields)
def spLaw (K : PySem.W.Frag) : Sp := fun vs H Q _ => ∃ (a : Addr) (ns : List Int), vs = [.ref a] ∧ SqL K H a (ns.map V.int) ∧ ns.length ≤ 63 ∧ ∀ H', Q (.bl true) H'
/-- what is due of _law_under -/
def uD (k : Nat) : PyData := .list ((underB k).map PyData.bool)
def dueD : List PyData := (List.range 30).map uD
theorem trBools {H : Hp} : ∀ bs : List Bool, TrAll H (bs.map V.bl) (bs.map PyData.bool)
  | [] => .nil
  | b :: bs => .cons (.bl b) (trBools bs)
theorem noBools : ∀ bs : List Bool, PyData.hasDict (.list (bs.map PyData.bool)) = false
  | [] => by simp [PyData.hasDict, PyData.hasDictAll]
  | b :: bs => by
    have z := noBools bs
    simp only [PyData.hasDict] at z
    simp [PyData.hasDict, PyData.hasDictAll, z]
theorem canBools : ∀ bs : List Bool, PyData.canLay0 (.list (bs.map PyData.bool)) = true
  | [] => by simp [PyData.canLay0, PyData.canLayAll0]
  | b :: bs => by
    have z := canBools bs
    simp only [PyData.canLay0] at z
    simp [PyData.canLay0, PyData.canLayAll0, z]
theorem depthBools : ∀ bs : List Bool, PyData.depthAll (bs.map PyData.bool) = 0
  | [] => by simp only [List.map_nil, PyData.depthAll]
  | b :: bs => by simp [PyData.depthAll, PyData.depth, depthBools bs]
theorem shapedBools (bs : List Bool) : SeqAt.shaped (.list (bs.map PyData.bool)) = true := by
  unfold SeqAt.shaped
  rw [Bool.and_eq_true]
  refine ⟨canBools bs, decide_eq_true ?_⟩
  simp only [PyData.depth, depthBools]
  omega
theorem decNat (m j : Nat) : decide (V.int (0 + (m : Int)) = V.int (0 + (j : Int))) = decide (m = j) := by
  by_cases h : m = j
  · subst h
    simp
  · rw [decide_eq_false h, decide_eq_false]
    intro z
    have z' := V.int.inj z
    omega
section
variable {P : Program} {w : World} {K : PySem.W.Frag} {mg : Str → Option Value} {base : Heap} {c : Nat → Addr}
abbrev nLaw : List Str := ["_law_script", "_law_pen_here", "_law_due", "_law_turn", "_law_thing", "_law_some", "_law_k", "_law_j", "_law_e"]
theorem scLaw : FnScope nLaw ["_law_script"] (defScope sLaw) := ⟨rfl, rfl, rfl, by decide +kernel, rfl, by decide +kernel, by decide +kernel⟩
/-- the scope of the comprehension over k -/
def scK : Scope := { kind := .function, names := [(".0", .local), ("_law_k", .cell), ("_law_marks", .globalImplicit), ("range", .globalImplicit), ("_law_some", .cell)], isGenerator := false, isCoroutine := false }
set_option maxHeartbeats 8000000 in
theorem ok_law {f : Addr} {fd : FuncData} (F : Fun K "law" "law" sLaw f fd) (Z : Defs P w K mg base c) (B : Blt mg) : FnG P w K mg base 9 f fd ["_law_script"] (spLaw K) := by
  refine Fun.okG F scLaw (fun vs H Q E h => ?_) (fun cdv A outer s H vs Q E hgd hr h => ?_)
  · obtain ⟨a, ns, rfl, _⟩ := h
    rfl
  obtain ⟨a, ns, rfl, hS, hl, k⟩ := h
  have hu := hu_of hr
  have hr1 : Room 1 _ := hr.mono (by decide)
  have hr2 : Room 2 _ := hr.mono (by decide)
  have hr3 : Room 3 _ := hr.mono (by decide)
  have h100 : (A.deeper (PyProof.Rows.envOfC "law" (defScope sLaw) s.heap.objs.size f cdv)).units + 100 < cLine := by
    have := hr.un
    omega
  have hgd' : (A.deeper (PyProof.Rows.envOfC "law" (defScope sLaw) s.heap.objs.size f cdv)).guards = some [] := hgd
  refine ⟨_, pss_cons (ps_set (i := 1) scLaw.nd rfl (.inl rfl) (pe_call Z.oPen hr1 rfl Z.mPen Z.kPen Z.bPen .nil pass0 (pa_cons (pv 0) pa_nil))) <|
    pss_cons (ps_set (i := 2) scLaw.nd rfl (.inl rfl) (pe_op op_rep (pd_lst (pd_cons (pd_lst (pd_cons (pd_bl pe_bl) <| pd_cons (pd_bl pe_bl) <| pd_cons (pd_bl pe_bl) <| pd_cons (pd_bl pe_bl) <| pd_cons (pd_bl pe_bl) <| pd_cons (pd_bl pe_bl) pd_nil)) pd_nil)) pe_int)) <|
    pss_cons (ps_set (i := 2) scLaw.nd rfl (.inl rfl) (pe_op op_cat (pv 2) (pd_lst (pd_cons (pd_lst (pd_cons (pd_bl pe_bl) <| pd_cons (pd_bl pe_bl) <| pd_cons (pd_bl pe_bl) <| pd_cons (pd_bl pe_bl) <| pd_cons (pd_bl pe_bl) <| pd_cons (pd_bl pe_bl) pd_nil)) <|
      pd_cons (pd_lst (pd_cons (pd_bl pe_bl) <| pd_cons (pd_bl pe_bl) <| pd_cons (pd_bl pe_bl) <| pd_cons (pd_bl pe_bl) <| pd_cons (pd_bl pe_bl) <| pd_cons (pd_bl pe_bl) pd_nil)) pd_nil)))) <|
    pss_cons (ps_for PassesOwn.never rfl (pi_range1 (by rfl) B.range (pa_cons pe_int pa_nil)) (pg_name (i := 3) scLaw.nd rfl (Or.inl rfl))
      (pss_cons (ps_set (i := 4) scLaw.nd rfl (.inl rfl) (pe_call Z.oPick hr2 rfl Z.mPick Z.kPick Z.bPick .nil pass0 (pa_cons (pv 1) (pa_cons (pe_lst (pa_cons (pe_call Z.oOdd hr3 rfl Z.mOdd Z.kOdd Z.bOdd .nil pass0 (pa_cons (pv 1) pa_nil)) <|
          pa_cons (pe_call Z.oDraw hr1 rfl Z.mDraw Z.kDraw Z.bDraw .nil pass0 (pa_cons (pv 1) (pa_cons (pe_op op_pow pe_int pe_int) pa_nil))) <|
          pa_cons (pe_tup (pa_cons pe_str (pa_cons (pe_call Z.oDraw hr1 rfl Z.mDraw Z.kDraw Z.bDraw .nil pass0 (pa_cons (pv 1) (pa_cons pe_int pa_nil))) pa_nil))) <|
          pa_cons (pd_tup (pd_cons (pd_str pe_str) pd_nil)) pa_nil)) pa_nil)))) <|
      pss_cons (ps_set (i := 5) scLaw.nd rfl (.inr rfl) (pe_call Z.oMade hr rfl Z.mMade Z.kMade Z.bMade .nil pass0 (pa_cons (pv 4) pa_nil))) <|
      pss_cons (ps_if (pt_cmpR op_ne (pe_callB (call_reprL hgd' h100) (by rfl) B.repr (by decide +kernel) (pa_cons (pe_call Z.oFields hr1 rfl Z.mFields Z.kFields Z.bFields .nil pass0 (pa_cons (pv 5) pa_nil)) pa_nil))
          (pe_callB (call_reprL hgd' h100) (by rfl) B.repr (by decide +kernel) (pa_cons (pe_op op_rep (pe_lst (pa_cons (pv 4) pa_nil)) pe_int) pa_nil)) (nomark _)) (pss_one (ps_ret pe_bl)) pss_nil) <|
      pss_cons (ps_if (pt_cmpR (op_neD hr.units) (pe_lc (own := [("_law_k", 6)]) (g := gName 6) (by rfl) scLaw.nd (pi_range1 (by rfl) B.range (pa_cons pe_int pa_nil)) (blkOk_by (N := nLaw) (sc := defScope sLaw) (by decide +kernel)) (fun _ _ _ _ _ => pg_name (i := 6) scLaw.nd rfl (Or.inr rfl))
          (fun _ _ _ _ _ => pts_one (pt_cmpR (r := rNeD K) (op_neD hr.units) (pe_call Z.oMarks hr1 rfl Z.mMarks Z.kMarks Z.bMarks .nil pass0 (pa_cons (pe_ix (r := rIxL K) ix_list (pv 5) (pv 6) (fun _ _ => rfl)) pa_nil))
            (pe_lc (own := [("_law_j", 7)]) (g := gName 7) (by rfl) scLaw.nd (pi_range1 (by rfl) B.range (pa_cons pe_int pa_nil)) (blkOk_by (N := nLaw) (sc := scK) (by decide +kernel)) (fun _ _ _ _ _ => pg_name (i := 7) scLaw.nd rfl (Or.inl rfl)) (fun _ _ _ _ _ => pts_nil)
              (fun _ _ _ _ _ => pe_cmpR op_eq (pv 6) (pv 7) (nomark _))) (nomark _)))
          (fun _ _ _ _ _ => pv 6)) (pe_lst pa_nil) (nomark _)) (pss_one (ps_ret pe_bl)) pss_nil) <|
      pss_one (ps_if (pt_cmpR (op_neD hr.units) (pe_lc (own := [("_law_e", 8)]) (g := gName 8) (by rfl) scLaw.nd (pi_list (pv 5)) (blkOk_by (N := nLaw) (sc := defScope sLaw) (by decide +kernel)) (fun _ _ _ _ _ => pg_name (i := 8) scLaw.nd rfl (Or.inl rfl)) (fun _ _ _ _ _ => pts_nil)
          (fun _ _ _ _ _ => pe_call Z.oUnder hr1 rfl Z.mUnder Z.kUnder Z.bUnder .nil pass0 (pa_cons (pv 8) pa_nil))) (pv 2) (nomark _)) (pss_one (ps_ret pe_bl)) pss_nil))) <|
    pss_one (ps_ret pe_bl), ?_⟩
  refine ⟨_, rfl, a, ns, rfl, hS, hl, fun p cc ns' H1 pen1 s1 => ?_⟩
  -- what is due
  intro v1 H2 s2 r1
  obtain ⟨q1, xs1, rfl, h1, t1⟩ := r1.isList
  cases t1 with
  | @cons x0 _ _ _ t0 tn =>
  cases tn
  refine ⟨q1, 28, [x0], rfl, rfl, newP_all _ _ h1, by decide, by decide, by show 1 * 28 ≤ sizeLine; decide, fun p2 n2 => ?_⟩
  have s3 := sameNew n2 (.lst (List.replicate (28 : Int).toNat [x0]).flatten)
  refine ⟨_, rfl, fun v3 H3 s4 r3 => ?_⟩
  obtain ⟨q3, xs3, rfl, h3, t3⟩ := r3.isList
  have z3 := t3.length
  refine ⟨p2, q3, _, xs3, rfl, rfl, s4 _ _ upd_same, newP_all _ _ h3, (by rw [z3]; show 28 + 2 ≤ sizeLine; decide), fun due n5 => ?_⟩
  have s5 := sameNew n5 (.lst ((List.replicate (28 : Int).toNat [x0]).flatten ++ xs3))
  have sA := s2.trans (s3.trans (s4.trans s5))
  have pen5 := pen1.same sA
  have tdue : Tr (newP H1 (upd H3 due (.lst ((List.replicate (28 : Int).toNat [x0]).flatten ++ xs3)))) (.ref due) (.list dueD) := by
    refine .lst (xs := (List.replicate (28 : Int).toNat [x0]).flatten ++ xs3) (by rw [newP_at ((s2.trans (s3.trans s4)).free n5), upd_same]) (TrAll.append (ds := List.replicate 28 (uD 0)) (es := [uD 28, uD 29]) (TrAll.rep (v := x0) (t0.same (newP_grow (s3.trans (s4.trans s5)))) 28) (t3.same ((newP_back (s2.trans s3)).trans (newP_grow s5))))
  have due5 := tdue.same (newP_del pen1.at_)
  clear tdue
  generalize upd H3 due (.lst ((List.replicate (28 : Int).toNat [x0]).flatten ++ xs3)) = H5 at pen5 due5 ⊢
  refine ⟨4, rfl, by decide, by decide, for_range (n := 4) (fun i σ Hx => ∃ (v3 v4 v5 : Option V) (t r : Int), σ = [some (.ref a), some (.ref p), some (.ref due), v3, v4, v5, none, none, none] ∧ PenAt Hx p cc ns' t r ∧ t ≤ 10 * (i : Int) ∧ Tr (del Hx p) (.ref due) (.list dueD))
    ⟨none, none, none, 0, 0, rfl, pen5, by omega, due5⟩ ?_ ?_⟩
  · rintro i σ Hx hi ⟨v3, v4, v5, t, r, rfl, pen, ht, hdue⟩
    have hi' : (i : Int) ≤ 4 := by omega
    refine ⟨_, rfl, _, rfl, p, cc, ns', t, r, rfl, pen, by omega, fun x0 d0 ta ra Ha m0 T0 ht1 penA sb1 => ?_⟩
    refine ⟨_, rfl, _, _, rfl, rfl, ⟨by decide, by decide, by decide⟩, p, cc, ns', ta, ra, 10 ^ 9, rfl, penA, by omega, by decide, by decide, fun w1 tb rb Hb w10 w11 ht2 penB sb2 => ?_⟩
    refine ⟨_, rfl, p, cc, ns', tb, rb, 12, rfl, penB, by omega, by decide, by decide, fun w2 tc rc Hc w20 w21 ht3 penC sb3 => ?_⟩
    refine ⟨by show 2 ≤ sizeLine; decide, fun qd nd => ?_⟩
    have sd := sameNew nd (.tup [.str "dial", .int w2])
    intro vh Hh sh rh
    refine ⟨by show 4 ≤ sizeLine; decide, fun ll nl => ?_⟩
    have sl := sameNew nl (.lst [x0, .int w1, .ref qd, vh])
    have penH := penC.same (sd.trans (sh.trans sl))
    refine ⟨p, cc, ll, ns', tc, rc, _, rfl, penH, by omega, upd_same, by show 1 ≤ 4; decide, by show 4 ≤ 1000000; decide, fun j x td rd He hx ht4 penE sbE => ?_⟩
    have hT : ∃ d, Good d ∧ Tr (del He p) x d := by
      have dl : Sb p Hc He := (Sb.same (sd.trans (sh.trans sl))).trans sbE
      match j, hx with
      | 0, hx =>
        cases (show some x0 = some x from hx)
        exact ⟨d0, good_odd m0, ((T0.same sb2).same sb3).same dl⟩
      | 1, hx =>
        cases (show some (V.int w1) = some x from hx)
        exact ⟨_, good_int w10 w11, .int w1⟩
      | 2, hx =>
        cases (show some (V.ref qd) = some x from hx)
        have pq : p ≠ qd := ne_of_none penC.at_ nd
        refine ⟨_, good_dial w20 w21, Tr.tup (xs := [.str "dial", .int w2]) ?_ (.cons (.str _) (.cons (.int w2) .nil))⟩
        exact sbE _ _ (by rw [del_ne pq.symm]; exact sl _ _ (sh _ _ upd_same))
      | 3, hx =>
        cases (show some vh = some x from hx)
        exact ⟨_, good_house, ((rh.same (newP_del (sd _ _ penC.at_))).same (Sb.same sl)).same sbE⟩
      | n + 4, hx => cases (show (none : Option V) = some x from hx)
    obtain ⟨d, gd, hT⟩ := hT
    have dueE : Tr (del He p) (.ref due) (.list dueD) := ((((hdue.same sb1).same sb2).same sb3).same (Sb.same (sd.trans (sh.trans sl)))).same sbE
    have htE : td ≤ 10 * (i : Int) + 4 := by omega
    clear penA sb1 penB sb2 penC sb3 penH sbE sd sh sl rh T0 m0
    -- the refusals are made
    refine ⟨_, rfl, x, d, rfl, hT.same delSame, gd.dep, gd.ok, fun lm as Hf sf hlm S7 => ?_⟩
    -- their fields
    refine ⟨_, rfl, lm, as, d, rfl, hlm, S7, fun l3 zs Hg sg h3g t3g => ?_⟩
    refine ⟨l3, zs, _, rfl, h3g, t3g, gd.rep.1, gd.rep.2.1, gd.rep.2.2.1, gd.rep.2.2.2, ?_⟩
    refine ⟨_, rfl, by show 1 ≤ sizeLine; decide, fun q4 n4 => ?_⟩
    have s6 := sameNew n4 (.lst [x])
    refine ⟨q4, 7, [x], rfl, rfl, upd_same, by decide, by decide, by show 1 * 7 ≤ sizeLine; decide, fun q6 n6 => ?_⟩
    have s7 := sameNew n6 (.lst (List.replicate (7 : Int).toNat [x]).flatten)
    have xD := ((hT.same delSame).same sf).same (sg.trans (s6.trans s7))
    refine ⟨q6, _, List.replicate 7 d, rfl, upd_same, TrAll.rep xD 7, gd.rep.1, gd.rep.2.1, gd.rep.2.2.1, gd.rep.2.2.2, rfl, _, rfl, ?_⟩
    refine iteNS rfl ?_
    have sK := sf.trans (sg.trans (s6.trans s7))
    have hlk := (sg.trans (s6.trans s7)) _ _ hlm
    have aK := S7.all.same (sg.trans (s6.trans s7))
    have lenK := S7.len
    have penK := penE.same sK
    have dueK := dueE.same (Sb.same sK)
    generalize upd (upd Hg q4 (.lst [x])) q6 (.lst (List.replicate (7 : Int).toNat [x]).flatten) = Hk at sK hlk aK penK dueK ⊢
    -- each is of its own class alone
    refine ⟨30, rfl, by decide, by decide, fun D hD => lc_range (lo := 0) (n := 30) (fun _ Hz => Hz D = some (.lst []) ∧ Same Hk Hz) ⟨upd_same, sameNew hD _⟩ ?_ ?_⟩
    · rintro m Hz hm ⟨hz0, sz⟩
      obtain ⟨am, fm, ham, eam⟩ := (aK.same sz).get (cl_get (c := c) hm)
      refine ⟨rfl, _, rfl, _, rfl, lm, _, _, _, rfl, rfl, SqL.of (sz _ _ hlk), (show atI (as.map V.ref) (0 + (m : Int)) = some (.ref am) by rw [Int.zero_add]; exact atRef ham), am, m, fm, rfl, hm, eam, fun lk Hy sy hy => ?_⟩
      refine ⟨30, rfl, by decide, by decide, fun D2 hD2 => lc_range (lo := 0) (n := 30) (fun j Hw => Hw D2 = some (.lst ((List.range j).map fun j => V.bl (decide (m = j)))) ∧ Same Hy Hw) ⟨upd_same, sameNew hD2 _⟩ ?_ ?_⟩
      · rintro j Hw hj ⟨hw, sw⟩
        refine ⟨rfl, _, rfl, _, rfl, rfl, _, hw, small1000 (by rw [List.length_map, List.length_range]; omega), ?_, ?_⟩
        · rw [upd_same, List.range_succ, List.map_append]
          refine congrArg (fun z => some (HO.lst ((List.range j).map (fun j => V.bl (decide (m = j))) ++ [V.bl z]))) ?_
          exact decNat m j
        · intro b o e
          rw [upd_ne (ne_of_none e hD2)]
          exact sw _ _ e
      · rintro Hw ⟨hw, sw⟩
        refine ⟨.list ((marksB m).map PyData.bool), .list ((marksB m).map PyData.bool), (Tr.lst (sw _ _ hy) (trBools _)).dp (noBools _), (Tr.lst (show Hw D2 = some (.lst ((marksB m).map V.bl)) from hw) (trBools _)).dp (noBools _), shapedBools _, shapedBools _, _, rfl, ?_⟩
        rw [SeqAt.eqv_refl _ (canBools _)]
        refine iteF ⟨sw _ _ (sy _ _ hz0), sz.trans (sy.trans sw)⟩
    · rintro Hz ⟨hz0, sz⟩
      refine ⟨by show 0 ≤ sizeLine; decide, fun q8 n8 => ?_⟩
      have s8 := sameNew n8 (.lst [])
      refine ⟨.list [], .list [], .lst (SqL.of (s8 _ _ hz0)) .nil, .lst (SqL.of upd_same) .nil, shapedInts [], shapedInts [], _, rfl, iteF ?_⟩
      have sL := sz.trans s8
      have hlL := sL _ _ hlk
      have aL := aK.same sL
      have penL := penK.same sL
      have dueL := dueK.same (Sb.same sL)
      generalize upd Hz q8 (.lst []) = HL at sL hlL aL penL dueL ⊢
      -- and under which it stands
      refine ⟨_, rfl, lm, rfl, ⟨_, SqL.of hlL⟩, fun D hD => lc_list (K := K) (a := lm) (xs := as.map V.ref) (fun i Hz => ∃ acc, Grow HL D Hz acc ((List.range i).map uD)) ⟨[], Grow.start hD⟩ (fun i Hz _ ⟨acc, g⟩ => SqL.of (g.same _ _ hlL)) ?_ ?_⟩
      · rintro e y Hy hy ⟨acc, g⟩
        have he : e < 30 := by
          have z := (List.getElem?_eq_some_iff.mp hy).1
          rw [List.length_map] at z
          omega
        obtain ⟨ae, fe, hae, eae⟩ := (aL.same g.same).get (cl_get (c := c) he)
        have ey : y = .ref ae := by
          rw [List.getElem?_map, hae] at hy
          exact (Option.some.inj hy).symm
        subst ey
        refine ⟨rfl, _, rfl, ae, e, fe, rfl, he, eae, fun lu Hu su nu hu2 => ?_⟩
        have hac : acc.length = e := by
          have z := g.all.length
          rw [List.length_map, List.length_range] at z
          exact z
        refine ⟨acc, su _ _ g.at_, small1000 (by omega), acc ++ [.ref lu], ?_⟩
        rw [List.range_succ, List.map_append]
        exact g.more su (.lst (by rw [newP_at nu]; exact hu2) (trBools _))
      · rintro Hy ⟨acc, g⟩
        rw [List.length_map, lenK] at g
        have dY := dueL.same (Sb.same g.same)
        refine ⟨_, rfl, .list dueD, .list dueD, (g.done.same newP_all).dp (by decide +kernel), (dY.same delSame).dp (by decide +kernel), by decide +kernel, by decide +kernel, _, rfl, ?_⟩
        rw [SeqAt.eqv_refl _ (by decide +kernel)]
        refine iteF ?_
        exact ⟨_, _, _, td, rd, rfl, penL.same g.same, by omega, dY⟩
  · rintro σ Hx _
    exact k Hx
end
end Pk
namespace Pk
open PySem L2
/-! ### the classes, looked at by one reckoning -/
def excCB (K : PySem.W.Frag) (C : Addr) : Bool :=
  decide (PySem.W.findIn K (.ref C) "__getattribute__" = some (some (.builtin "BaseException.__getattribute__"))) && (decide (PySem.W.findIn K (.ref C) "__getattr__" = some none) && (decide (PySem.W.subIn K (.ref C) (.type "BaseException") = some true) && (PySem.W.hasDictIn K C &&
  (decide (PySem.W.findIn K (.ref C) "__class__" = some (some (.builtin "object.__class__"))) && (decide (PySem.W.specialIn K (.builtin "object.__class__") "__get__" = some (some (.builtin "getset_descriptor.__get__"))) && (decide (PySem.W.takesIn K (.builtin "object.__class__") = some true) && decide (PySem.W.mroIn K C (.type "object") = some true)))))))
theorem excCB_ok {K : PySem.W.Frag} {C : Addr} (h : excCB K C = true) : ExcC K C := by
  simp only [excCB, Bool.and_eq_true, decide_eq_true_eq] at h
  obtain ⟨h1, h2, h3, h4, h5, h6, h7, h8⟩ := h
  exact ⟨h1, h2, h3, h4, h5, h6, h7, h8⟩
/-- a class with an own __init__, over ValueError -/
def oexB (K : PySem.W.Frag) (C : Addr) : Bool := match K.lookup C with
  | some ⟨.type "type", _, .cls cd, sx⟩ => (match cd.mro, sx.toList with
    | .ref C' :: bm, [_, _, _, _, some (.builtin n), _] => C' == C && (n == "ValueError.__new__" && (!cd.hasDel && (cd.hasDict && PySem.HandSPX.refsVE bm)))
    | _, _ => false)
  | _ => false
theorem oexB_ok {K : PySem.W.Frag} {C : Addr} (h : oexB K C = true) : ∃ nm q N bs bm sn sub ab col dd k0 k1 k2 k3 k5, K.lookup C = some (excClassObj nm q C N bs bm true sn sub ab col dd k0 k1 k2 k3 k5 "ValueError.__new__") ∧ PySem.HandSPX.refsVE bm = true := by
  unfold oexB at h
  split at h
  · rename_i dd cd sl ho
    split at h
    · rename_i Cz bm k0 k1 k2 k3 n k5 hm hs
      simp only [Bool.and_eq_true, beq_iff_eq, Bool.not_eq_true'] at h
      obtain ⟨rfl, rfl, e1, e2, e3⟩ := h
      obtain ⟨nm, bs, mro, N, q, hd, sn, sub, ab, col, del⟩ := cd
      dsimp only at hm e1 e2
      subst hm e1 e2
      have es : sl = #[k0, k1, k2, k3, some (.builtin "ValueError.__new__"), k5] := by
        obtain ⟨l⟩ := sl
        simp only at hs
        rw [hs]
      subst es
      exact ⟨nm, q, N, bs, bm, sn, sub, ab, col, dd, k0, k1, k2, k3, k5, ho, e3⟩
    · cases h
  · cases h
def oexCB (K : PySem.W.Frag) (C : Addr) : Bool := oexB K C && (decide (PySem.W.findIn K (.ref C) "__setattr__" = some (some (.builtin "object.__setattr__"))) && (decide (PySem.W.subIn K (.ref C) (.type "BaseException") = some true) && (decide (PySem.W.typeIn K (.ref C) = some (.type "type")) && PySem.W.keepIn K (.ref C))))
theorem oexCB_ok {K : PySem.W.Frag} {C : Addr} (h : oexCB K C = true) : OexC K C := by
  simp only [oexCB, Bool.and_eq_true, decide_eq_true_eq] at h
  exact ⟨oexB_ok h.1, h.2.1, h.2.2.1, h.2.2.2.1, h.2.2.2.2⟩
/-- all that the walk asks of the classes -/
def chk (K : PySem.W.Frag) (c : Nat → Addr) (D : Addr) : Bool :=
  (List.range 30).all (fun i => PySem.W.keepIn K (.ref (c i)) && (excCB K (c i) && ((List.range 30).all (fun j => decide (PySem.W.kitOne K (.ref (c i)) (.ref (c j)) = some (decide (i = j)))) &&
    (decide (PySem.W.kitOne K (.ref (c i)) (.ref D) = some (decide (i < 28))) && (decide (PySem.W.kitOne K (.ref (c i)) (.type "ValueError") = some (decide (i < 28))) && (decide (PySem.W.kitOne K (.ref (c i)) (.type "LookupError") = some (decide (i = 28))) &&
    (decide (PySem.W.kitOne K (.ref (c i)) (.type "RuntimeError") = some (decide (i = 29))) && (decide (PySem.W.kitAny K (.ref (c i)) [.type "KeyError", .type "IndexError"] = some false) && decide (PySem.W.kitAny K (.ref (c i)) [.type "ArithmeticError", .type "TypeError"] = some false))))))))) &&
  ((List.range 21).all (fun i => PySem.W.excIn K (c (i + 7)) bmV "ValueError.__new__") && (PySem.W.excIn K (c 28) bmL "LookupError.__new__" && (PySem.W.excIn K (c 29) bmR "RuntimeError.__new__" &&
  (List.range 7).all (fun i => oexCB K (c i) && (xfB K (c i) && decide (PySem.W.findIn K (.ref (c i)) (fname i) = some none))))))
/-- the classes in their order -/
def pick30 (cs : List Addr) : Nat → Addr := fun i => cs.getD i 0
theorem txt_of {K : PySem.W.Frag} {mg : Str → Option Value} {c : Nat → Addr} {D : Addr} (h : chk K c D = true)
    (m0 : mg "NoHouse" = some (.ref (c 0))) (m1 : mg "NoWalk" = some (.ref (c 1))) (m2 : mg "NoText" = some (.ref (c 2))) (m3 : mg "TooLong" = some (.ref (c 3))) (m4 : mg "TooStrong" = some (.ref (c 4))) (m5 : mg "Weak" = some (.ref (c 5))) (m6 : mg "Poor" = some (.ref (c 6))) (m7 : mg "NoNumbers" = some (.ref (c 7))) (m8 : mg "NoStanding" = some (.ref (c 8))) (m9 : mg "NoWish" = some (.ref (c 9))) (m10 : mg "NoWishes" = some (.ref (c 10))) (m11 : mg "NoStrength" = some (.ref (c 11))) (m12 : mg "NoPlace" = some (.ref (c 12))) (m13 : mg "NoDial" = some (.ref (c 13))) (m14 : mg "NoReason" = some (.ref (c 14))) (m15 : mg "NoBeat" = some (.ref (c 15))) (m16 : mg "NoNumber" = some (.ref (c 16))) (m17 : mg "NoHands" = some (.ref (c 17))) (m18 : mg "NoRule" = some (.ref (c 18))) (m19 : mg "NoDeed" = some (.ref (c 19))) (m20 : mg "NoPrice" = some (.ref (c 20))) (m21 : mg "NoChain" = some (.ref (c 21))) (m22 : mg "NoRow" = some (.ref (c 22))) (m23 : mg "TooWide" = some (.ref (c 23))) (m24 : mg "Never" = some (.ref (c 24))) (m25 : mg "Taken" = some (.ref (c 25))) (m26 : mg "Broken" = some (.ref (c 26))) (m27 : mg "Unlike" = some (.ref (c 27))) (m28 : mg "NothingDone" = some (.ref (c 28))) (m29 : mg "NotYet" = some (.ref (c 29)))
    (mD : mg "DialError" = some (.ref D)) (gV : mg "ValueError" = none) (gL : mg "LookupError" = none) (gK : mg "KeyError" = none) (gI : mg "IndexError" = none) (gR : mg "RuntimeError" = none) (gA : mg "ArithmeticError" = none) (gT : mg "TypeError" = none) : Txt K mg c D := by
  simp only [chk, Bool.and_eq_true, List.all_eq_true, List.mem_range, decide_eq_true_eq] at h
  obtain ⟨h1, h2, h3, h4, h5⟩ := h
  exact ⟨m0, m1, m2, m3, m4, m5, m6, m7, m8, m9, m10, m11, m12, m13, m14, m15, m16, m17, m18, m19, m20, m21, m22, m23, m24, m25, m26, m27, m28, m29, mD, gV, gL, gK, gI, gR, gA, gT,
    fun i hi => (h1 i hi).1, fun i hi => excCB_ok (h1 i hi).2.1, fun i h7 h28 => by have z := h2 (i - 7) (by omega); rwa [show i - 7 + 7 = i by omega] at z, h3, h4,
    fun i j hi hj => (h1 i hi).2.2.1 j hj, fun i hi => (h1 i hi).2.2.2.1, fun i hi => (h1 i hi).2.2.2.2.1, fun i hi => (h1 i hi).2.2.2.2.2.1, fun i hi => (h1 i hi).2.2.2.2.2.2.1, fun i hi => (h1 i hi).2.2.2.2.2.2.2.1, fun i hi => (h1 i hi).2.2.2.2.2.2.2.2,
    fun i hi => oexCB_ok (h5 i hi).1, fun i hi => xfB_ok (h5 i hi).2.1, fun i hi => (h5 i hi).2.2⟩
theorem all_mk {l : PySem.W.OpenLaw} {w : World} {K : PySem.W.Frag} {h : Heap} {mg : Str → Option Value} {fa D : Addr} (X : K.In h) (G : h.Ns mainGlobals mg) (hfa : mg "law" = some (.ref fa))
    {C0 C1 C2 C3 C4 C5 C6 C7 C8 C9 C10 C11 C12 C13 C14 C15 C16 C17 C18 C19 C20 C21 C22 C23 C24 C25 C26 C27 C28 C29 : Addr} {fI0 fI1 fI2 fI3 fI4 fI5 fI6 fKept fPen fDraw fPick fOdd fMarks fUnder fMade fFields fLaw : Addr} {odI0 anI0 odI1 anI1 odI2 anI2 odI3 anI3 odI4 anI4 odI5 anI5 odI6 anI6 odKept anKept odPen anPen odDraw anDraw odPick anPick odOdd anOdd odMarks anMarks odUnder anUnder odMade anMade odFields anFields odLaw anLaw : Option Addr} {slI0 slI1 slI2 slI3 slI4 slI5 slI6 slKept slPen slDraw slPick slOdd slMarks slUnder slMade slFields slLaw : Array (Option Value)}
    {ocI0 kVI0 dcI0 pmI0 cdI0 ctI0 ocI1 kVI1 dcI1 pmI1 cdI1 ctI1 ocI2 kVI2 dcI2 pmI2 cdI2 ctI2 ocI3 kVI3 dcI3 pmI3 cdI3 ctI3 ocI4 kVI4 dcI4 pmI4 cdI4 ctI4 ocI5 kVI5 dcI5 pmI5 cdI5 ctI5 ocI6 kVI6 dcI6 pmI6 cdI6 ctI6 ocKept kVKept dcKept pmKept cdKept ctKept ocPen kVPen dcPen pmPen cdPen ctPen ocDraw kVDraw dcDraw pmDraw cdDraw ctDraw ocPick kVPick dcPick pmPick cdPick ctPick ocOdd kVOdd dcOdd pmOdd cdOdd ctOdd ocMarks kVMarks dcMarks pmMarks cdMarks ctMarks ocUnder kVUnder dcUnder pmUnder cdUnder ctUnder ocMade kVMade dcMade pmMade cdMade ctMade ocFields kVFields dcFields pmFields cdFields ctFields ocLaw kVLaw dcLaw pmLaw cdLaw ctLaw : Value}
    (aC0 : PySem.W.nsIn K mainGlobals "NoHouse" = some (some (.ref C0)))
    (aC1 : PySem.W.nsIn K mainGlobals "NoWalk" = some (some (.ref C1)))
    (aC2 : PySem.W.nsIn K mainGlobals "NoText" = some (some (.ref C2)))
    (aC3 : PySem.W.nsIn K mainGlobals "TooLong" = some (some (.ref C3)))
    (aC4 : PySem.W.nsIn K mainGlobals "TooStrong" = some (some (.ref C4)))
    (aC5 : PySem.W.nsIn K mainGlobals "Weak" = some (some (.ref C5)))
    (aC6 : PySem.W.nsIn K mainGlobals "Poor" = some (some (.ref C6)))
    (aC7 : PySem.W.nsIn K mainGlobals "NoNumbers" = some (some (.ref C7)))
    (aC8 : PySem.W.nsIn K mainGlobals "NoStanding" = some (some (.ref C8)))
    (aC9 : PySem.W.nsIn K mainGlobals "NoWish" = some (some (.ref C9)))
    (aC10 : PySem.W.nsIn K mainGlobals "NoWishes" = some (some (.ref C10)))
    (aC11 : PySem.W.nsIn K mainGlobals "NoStrength" = some (some (.ref C11)))
    (aC12 : PySem.W.nsIn K mainGlobals "NoPlace" = some (some (.ref C12)))
    (aC13 : PySem.W.nsIn K mainGlobals "NoDial" = some (some (.ref C13)))
    (aC14 : PySem.W.nsIn K mainGlobals "NoReason" = some (some (.ref C14)))
    (aC15 : PySem.W.nsIn K mainGlobals "NoBeat" = some (some (.ref C15)))
    (aC16 : PySem.W.nsIn K mainGlobals "NoNumber" = some (some (.ref C16)))
    (aC17 : PySem.W.nsIn K mainGlobals "NoHands" = some (some (.ref C17)))
    (aC18 : PySem.W.nsIn K mainGlobals "NoRule" = some (some (.ref C18)))
    (aC19 : PySem.W.nsIn K mainGlobals "NoDeed" = some (some (.ref C19)))
    (aC20 : PySem.W.nsIn K mainGlobals "NoPrice" = some (some (.ref C20)))
    (aC21 : PySem.W.nsIn K mainGlobals "NoChain" = some (some (.ref C21)))
    (aC22 : PySem.W.nsIn K mainGlobals "NoRow" = some (some (.ref C22)))
    (aC23 : PySem.W.nsIn K mainGlobals "TooWide" = some (some (.ref C23)))
    (aC24 : PySem.W.nsIn K mainGlobals "Never" = some (some (.ref C24)))
    (aC25 : PySem.W.nsIn K mainGlobals "Taken" = some (some (.ref C25)))
    (aC26 : PySem.W.nsIn K mainGlobals "Broken" = some (some (.ref C26)))
    (aC27 : PySem.W.nsIn K mainGlobals "Unlike" = some (some (.ref C27)))
    (aC28 : PySem.W.nsIn K mainGlobals "NothingDone" = some (some (.ref C28)))
    (aC29 : PySem.W.nsIn K mainGlobals "NotYet" = some (some (.ref C29)))
    (aD : PySem.W.nsIn K mainGlobals "DialError" = some (some (.ref D)))
    (aI0 : PySem.W.findIn K (.ref C0) "__init__" = some (some (.ref fI0)))
    (lI0 : K.lookup fI0 = some ⟨ocI0, odI0, .func (PySem.W.fnOf "__init__" "NoHouse.__init__" (defArgs sI0) (defBody sI0) (defScope sI0) .none kVI0 dcI0 pmI0 anI0 cdI0 ctI0), slI0⟩)
    (cI0 : PySem.W.codeIn K cdI0 "NoHouse.__init__" = true)
    (kI0 : PySem.W.keepIn K (.ref fI0) = true)
    (tI0 : PySem.W.typeIn K (.ref fI0) = some (.type "function"))
    (aI1 : PySem.W.findIn K (.ref C1) "__init__" = some (some (.ref fI1)))
    (lI1 : K.lookup fI1 = some ⟨ocI1, odI1, .func (PySem.W.fnOf "__init__" "NoWalk.__init__" (defArgs sI1) (defBody sI1) (defScope sI1) .none kVI1 dcI1 pmI1 anI1 cdI1 ctI1), slI1⟩)
    (cI1 : PySem.W.codeIn K cdI1 "NoWalk.__init__" = true)
    (kI1 : PySem.W.keepIn K (.ref fI1) = true)
    (tI1 : PySem.W.typeIn K (.ref fI1) = some (.type "function"))
    (aI2 : PySem.W.findIn K (.ref C2) "__init__" = some (some (.ref fI2)))
    (lI2 : K.lookup fI2 = some ⟨ocI2, odI2, .func (PySem.W.fnOf "__init__" "NoText.__init__" (defArgs sI2) (defBody sI2) (defScope sI2) .none kVI2 dcI2 pmI2 anI2 cdI2 ctI2), slI2⟩)
    (cI2 : PySem.W.codeIn K cdI2 "NoText.__init__" = true)
    (kI2 : PySem.W.keepIn K (.ref fI2) = true)
    (tI2 : PySem.W.typeIn K (.ref fI2) = some (.type "function"))
    (aI3 : PySem.W.findIn K (.ref C3) "__init__" = some (some (.ref fI3)))
    (lI3 : K.lookup fI3 = some ⟨ocI3, odI3, .func (PySem.W.fnOf "__init__" "TooLong.__init__" (defArgs sI3) (defBody sI3) (defScope sI3) .none kVI3 dcI3 pmI3 anI3 cdI3 ctI3), slI3⟩)
    (cI3 : PySem.W.codeIn K cdI3 "TooLong.__init__" = true)
    (kI3 : PySem.W.keepIn K (.ref fI3) = true)
    (tI3 : PySem.W.typeIn K (.ref fI3) = some (.type "function"))
    (aI4 : PySem.W.findIn K (.ref C4) "__init__" = some (some (.ref fI4)))
    (lI4 : K.lookup fI4 = some ⟨ocI4, odI4, .func (PySem.W.fnOf "__init__" "TooStrong.__init__" (defArgs sI4) (defBody sI4) (defScope sI4) .none kVI4 dcI4 pmI4 anI4 cdI4 ctI4), slI4⟩)
    (cI4 : PySem.W.codeIn K cdI4 "TooStrong.__init__" = true)
    (kI4 : PySem.W.keepIn K (.ref fI4) = true)
    (tI4 : PySem.W.typeIn K (.ref fI4) = some (.type "function"))
    (aI5 : PySem.W.findIn K (.ref C5) "__init__" = some (some (.ref fI5)))
    (lI5 : K.lookup fI5 = some ⟨ocI5, odI5, .func (PySem.W.fnOf "__init__" "Weak.__init__" (defArgs sI5) (defBody sI5) (defScope sI5) .none kVI5 dcI5 pmI5 anI5 cdI5 ctI5), slI5⟩)
    (cI5 : PySem.W.codeIn K cdI5 "Weak.__init__" = true)
    (kI5 : PySem.W.keepIn K (.ref fI5) = true)
    (tI5 : PySem.W.typeIn K (.ref fI5) = some (.type "function"))
    (aI6 : PySem.W.findIn K (.ref C6) "__init__" = some (some (.ref fI6)))
    (lI6 : K.lookup fI6 = some ⟨ocI6, odI6, .func (PySem.W.fnOf "__init__" "Poor.__init__" (defArgs sI6) (defBody sI6) (defScope sI6) .none kVI6 dcI6 pmI6 anI6 cdI6 ctI6), slI6⟩)
    (cI6 : PySem.W.codeIn K cdI6 "Poor.__init__" = true)
    (kI6 : PySem.W.keepIn K (.ref fI6) = true)
    (tI6 : PySem.W.typeIn K (.ref fI6) = some (.type "function"))
    (aKept : PySem.W.nsIn K mainGlobals "kept" = some (some (.ref fKept)))
    (lKept : K.lookup fKept = some ⟨ocKept, odKept, .func (PySem.W.fnOf "kept" "kept" (defArgs sKept) (defBody sKept) (defScope sKept) .none kVKept dcKept pmKept anKept cdKept ctKept), slKept⟩)
    (cKept : PySem.W.codeIn K cdKept "kept" = true)
    (kKept : PySem.W.keepIn K (.ref fKept) = true)
    (aPen : PySem.W.nsIn K mainGlobals "_law_pen" = some (some (.ref fPen)))
    (lPen : K.lookup fPen = some ⟨ocPen, odPen, .func (PySem.W.fnOf "_law_pen" "_law_pen" (defArgs sPen) (defBody sPen) (defScope sPen) .none kVPen dcPen pmPen anPen cdPen ctPen), slPen⟩)
    (cPen : PySem.W.codeIn K cdPen "_law_pen" = true)
    (kPen : PySem.W.keepIn K (.ref fPen) = true)
    (aDraw : PySem.W.nsIn K mainGlobals "_law_draw" = some (some (.ref fDraw)))
    (lDraw : K.lookup fDraw = some ⟨ocDraw, odDraw, .func (PySem.W.fnOf "_law_draw" "_law_draw" (defArgs sDraw) (defBody sDraw) (defScope sDraw) .none kVDraw dcDraw pmDraw anDraw cdDraw ctDraw), slDraw⟩)
    (cDraw : PySem.W.codeIn K cdDraw "_law_draw" = true)
    (kDraw : PySem.W.keepIn K (.ref fDraw) = true)
    (aPick : PySem.W.nsIn K mainGlobals "_law_pick" = some (some (.ref fPick)))
    (lPick : K.lookup fPick = some ⟨ocPick, odPick, .func (PySem.W.fnOf "_law_pick" "_law_pick" (defArgs sPick) (defBody sPick) (defScope sPick) .none kVPick dcPick pmPick anPick cdPick ctPick), slPick⟩)
    (cPick : PySem.W.codeIn K cdPick "_law_pick" = true)
    (kPick : PySem.W.keepIn K (.ref fPick) = true)
    (aOdd : PySem.W.nsIn K mainGlobals "_law_odd" = some (some (.ref fOdd)))
    (lOdd : K.lookup fOdd = some ⟨ocOdd, odOdd, .func (PySem.W.fnOf "_law_odd" "_law_odd" (defArgs sOdd) (defBody sOdd) (defScope sOdd) .none kVOdd dcOdd pmOdd anOdd cdOdd ctOdd), slOdd⟩)
    (cOdd : PySem.W.codeIn K cdOdd "_law_odd" = true)
    (kOdd : PySem.W.keepIn K (.ref fOdd) = true)
    (aMarks : PySem.W.nsIn K mainGlobals "_law_marks" = some (some (.ref fMarks)))
    (lMarks : K.lookup fMarks = some ⟨ocMarks, odMarks, .func (PySem.W.fnOf "_law_marks" "_law_marks" (defArgs sMarks) (defBody sMarks) (defScope sMarks) .none kVMarks dcMarks pmMarks anMarks cdMarks ctMarks), slMarks⟩)
    (cMarks : PySem.W.codeIn K cdMarks "_law_marks" = true)
    (kMarks : PySem.W.keepIn K (.ref fMarks) = true)
    (aUnder : PySem.W.nsIn K mainGlobals "_law_under" = some (some (.ref fUnder)))
    (lUnder : K.lookup fUnder = some ⟨ocUnder, odUnder, .func (PySem.W.fnOf "_law_under" "_law_under" (defArgs sUnder) (defBody sUnder) (defScope sUnder) .none kVUnder dcUnder pmUnder anUnder cdUnder ctUnder), slUnder⟩)
    (cUnder : PySem.W.codeIn K cdUnder "_law_under" = true)
    (kUnder : PySem.W.keepIn K (.ref fUnder) = true)
    (aMade : PySem.W.nsIn K mainGlobals "_law_made" = some (some (.ref fMade)))
    (lMade : K.lookup fMade = some ⟨ocMade, odMade, .func (PySem.W.fnOf "_law_made" "_law_made" (defArgs sMade) (defBody sMade) (defScope sMade) .none kVMade dcMade pmMade anMade cdMade ctMade), slMade⟩)
    (cMade : PySem.W.codeIn K cdMade "_law_made" = true)
    (kMade : PySem.W.keepIn K (.ref fMade) = true)
    (aFields : PySem.W.nsIn K mainGlobals "_law_fields" = some (some (.ref fFields)))
    (lFields : K.lookup fFields = some ⟨ocFields, odFields, .func (PySem.W.fnOf "_law_fields" "_law_fields" (defArgs sFields) (defBody sFields) (defScope sFields) .none kVFields dcFields pmFields anFields cdFields ctFields), slFields⟩)
    (cFields : PySem.W.codeIn K cdFields "_law_fields" = true)
    (kFields : PySem.W.keepIn K (.ref fFields) = true)
    (aLaw : PySem.W.nsIn K mainGlobals "law" = some (some (.ref fLaw)))
    (lLaw : K.lookup fLaw = some ⟨ocLaw, odLaw, .func (PySem.W.fnOf "law" "law" (defArgs sLaw) (defBody sLaw) (defScope sLaw) .none kVLaw dcLaw pmLaw anLaw cdLaw ctLaw), slLaw⟩)
    (cLaw : PySem.W.codeIn K cdLaw "law" = true)
    (kLaw : PySem.W.keepIn K (.ref fLaw) = true)
    (z_len : PySem.W.nsIn K mainGlobals "len" = some none)
    (z_abs : PySem.W.nsIn K mainGlobals "abs" = some none)
    (z_list : PySem.W.nsIn K mainGlobals "list" = some none)
    (z_tuple : PySem.W.nsIn K mainGlobals "tuple" = some none)
    (z_dict : PySem.W.nsIn K mainGlobals "dict" = some none)
    (z_isinstance : PySem.W.nsIn K mainGlobals "isinstance" = some none)
    (z_range : PySem.W.nsIn K mainGlobals "range" = some none)
    (z_repr : PySem.W.nsIn K mainGlobals "repr" = some none)
    (zV : PySem.W.nsIn K mainGlobals "ValueError" = some none)
    (zL : PySem.W.nsIn K mainGlobals "LookupError" = some none)
    (zK : PySem.W.nsIn K mainGlobals "KeyError" = some none)
    (zI : PySem.W.nsIn K mainGlobals "IndexError" = some none)
    (zR : PySem.W.nsIn K mainGlobals "RuntimeError" = some none)
    (zA : PySem.W.nsIn K mainGlobals "ArithmeticError" = some none)
    (zT : PySem.W.nsIn K mainGlobals "TypeError" = some none)
    (hchk : chk K (pick30 [C0, C1, C2, C3, C4, C5, C6, C7, C8, C9, C10, C11, C12, C13, C14, C15, C16, C17, C18, C19, C20, C21, C22, C23, C24, C25, C26, C27, C28, C29]) D = true)
    : ∃ fd : FuncData, (∀ (s : Shared) (v : Value), BindsTo s fd ⟨[v], []⟩ [("_law_script", v)]) ∧ ∀ base : Heap, K.In base → base.Ns mainGlobals mg → FnG l.prog w K mg base 9 fa fd ["_law_script"] (spLaw K) := by
  have e := hfa.symm.trans (PySem.W.mg_of X G aLaw)
  cases e
  have T : Txt K mg (pick30 [C0, C1, C2, C3, C4, C5, C6, C7, C8, C9, C10, C11, C12, C13, C14, C15, C16, C17, C18, C19, C20, C21, C22, C23, C24, C25, C26, C27, C28, C29]) D := txt_of hchk (PySem.W.mg_of X G aC0) (PySem.W.mg_of X G aC1) (PySem.W.mg_of X G aC2) (PySem.W.mg_of X G aC3) (PySem.W.mg_of X G aC4) (PySem.W.mg_of X G aC5) (PySem.W.mg_of X G aC6) (PySem.W.mg_of X G aC7) (PySem.W.mg_of X G aC8) (PySem.W.mg_of X G aC9) (PySem.W.mg_of X G aC10) (PySem.W.mg_of X G aC11) (PySem.W.mg_of X G aC12) (PySem.W.mg_of X G aC13) (PySem.W.mg_of X G aC14) (PySem.W.mg_of X G aC15) (PySem.W.mg_of X G aC16) (PySem.W.mg_of X G aC17) (PySem.W.mg_of X G aC18) (PySem.W.mg_of X G aC19) (PySem.W.mg_of X G aC20) (PySem.W.mg_of X G aC21) (PySem.W.mg_of X G aC22) (PySem.W.mg_of X G aC23) (PySem.W.mg_of X G aC24) (PySem.W.mg_of X G aC25) (PySem.W.mg_of X G aC26) (PySem.W.mg_of X G aC27) (PySem.W.mg_of X G aC28) (PySem.W.mg_of X G aC29) (PySem.W.mg_of X G aD) (PySem.W.mg_none_of X G zV) (PySem.W.mg_none_of X G zL) (PySem.W.mg_none_of X G zK) (PySem.W.mg_none_of X G zI) (PySem.W.mg_none_of X G zR) (PySem.W.mg_none_of X G zA) (PySem.W.mg_none_of X G zT)
  have B : Blt mg := ⟨PySem.W.mg_none_of X G z_len, PySem.W.mg_none_of X G z_abs, PySem.W.mg_none_of X G z_list, PySem.W.mg_none_of X G z_tuple, PySem.W.mg_none_of X G z_dict, PySem.W.mg_none_of X G z_isinstance, PySem.W.mg_none_of X G z_range, PySem.W.mg_none_of X G z_repr⟩
  have FI0 := fun_mk (st := sI0) lI0 cI0 kI0
  have bI0 := FI0.binds (ps := ["self", "fault"]) fun _ _ _ _ _ _ us hl => match us, hl with | [_, _], _ => rfl
  have FI1 := fun_mk (st := sI1) lI1 cI1 kI1
  have bI1 := FI1.binds (ps := ["self", "nth"]) fun _ _ _ _ _ _ us hl => match us, hl with | [_, _], _ => rfl
  have FI2 := fun_mk (st := sI2) lI2 cI2 kI2
  have bI2 := FI2.binds (ps := ["self", "row"]) fun _ _ _ _ _ _ us hl => match us, hl with | [_, _], _ => rfl
  have FI3 := fun_mk (st := sI3) lI3 cI3 kI3
  have bI3 := FI3.binds (ps := ["self", "most"]) fun _ _ _ _ _ _ us hl => match us, hl with | [_, _], _ => rfl
  have FI4 := fun_mk (st := sI4) lI4 cI4 kI4
  have bI4 := FI4.binds (ps := ["self", "strength"]) fun _ _ _ _ _ _ us hl => match us, hl with | [_, _], _ => rfl
  have FI5 := fun_mk (st := sI5) lI5 cI5 kI5
  have bI5 := FI5.binds (ps := ["self", "strength"]) fun _ _ _ _ _ _ us hl => match us, hl with | [_, _], _ => rfl
  have FI6 := fun_mk (st := sI6) lI6 cI6 kI6
  have bI6 := FI6.binds (ps := ["self", "price"]) fun _ _ _ _ _ _ us hl => match us, hl with | [_, _], _ => rfl
  have FKept := fun_mk (st := sKept) lKept cKept kKept
  have bKept := FKept.binds (ps := ["thing"]) fun _ _ _ _ _ _ us hl => match us, hl with | [_], _ => rfl
  have FPen := fun_mk (st := sPen) lPen cPen kPen
  have bPen := FPen.binds (ps := ["_law_script"]) fun _ _ _ _ _ _ us hl => match us, hl with | [_], _ => rfl
  have FDraw := fun_mk (st := sDraw) lDraw cDraw kDraw
  have bDraw := FDraw.binds (ps := ["_law_pen_here", "_law_many"]) fun _ _ _ _ _ _ us hl => match us, hl with | [_, _], _ => rfl
  have FPick := fun_mk (st := sPick) lPick cPick kPick
  have bPick := FPick.binds (ps := ["_law_pen_here", "_law_some"]) fun _ _ _ _ _ _ us hl => match us, hl with | [_, _], _ => rfl
  have FOdd := fun_mk (st := sOdd) lOdd cOdd kOdd
  have bOdd := FOdd.binds (ps := ["_law_pen_here"]) fun _ _ _ _ _ _ us hl => match us, hl with | [_], _ => rfl
  have FMarks := fun_mk (st := sMarks) lMarks cMarks kMarks
  have bMarks := FMarks.binds (ps := ["_law_e"]) fun _ _ _ _ _ _ us hl => match us, hl with | [_], _ => rfl
  have FUnder := fun_mk (st := sUnder) lUnder cUnder kUnder
  have bUnder := FUnder.binds (ps := ["_law_e"]) fun _ _ _ _ _ _ us hl => match us, hl with | [_], _ => rfl
  have FMade := fun_mk (st := sMade) lMade cMade kMade
  have bMade := FMade.binds (ps := ["_law_thing"]) fun _ _ _ _ _ _ us hl => match us, hl with | [_], _ => rfl
  have FFields := fun_mk (st := sFields) lFields cFields kFields
  have bFields := FFields.binds (ps := ["_law_some"]) fun _ _ _ _ _ _ us hl => match us, hl with | [_], _ => rfl
  have FLaw := fun_mk (st := sLaw) lLaw cLaw kLaw
  refine ⟨PySem.W.fnOf "law" "law" (defArgs sLaw) (defBody sLaw) (defScope sLaw) .none kVLaw dcLaw pmLaw anLaw cdLaw ctLaw, fun s v => .of_eq rfl, fun base _ _ => ?_⟩
  have oKept := ok_kept (P := l.prog) (w := w) (base := base) FKept bKept (PySem.W.mg_of X G aKept) B 5
  have oDraw := ok_draw (P := l.prog) (w := w) (base := base) FDraw B
  have oPick := ok_pick FPick oDraw bDraw kDraw (PySem.W.mg_of X G aDraw) B
  have N : Inits l.prog w K mg base (pick30 [C0, C1, C2, C3, C4, C5, C6, C7, C8, C9, C10, C11, C12, C13, C14, C15, C16, C17, C18, C19, C20, C21, C22, C23, C24, C25, C26, C27, C28, C29]) (pick30 [fI0, fI1, fI2, fI3, fI4, fI5, fI6]) (fun i => [PySem.W.fnOf "__init__" "NoHouse.__init__" (defArgs sI0) (defBody sI0) (defScope sI0) .none kVI0 dcI0 pmI0 anI0 cdI0 ctI0, PySem.W.fnOf "__init__" "NoWalk.__init__" (defArgs sI1) (defBody sI1) (defScope sI1) .none kVI1 dcI1 pmI1 anI1 cdI1 ctI1, PySem.W.fnOf "__init__" "NoText.__init__" (defArgs sI2) (defBody sI2) (defScope sI2) .none kVI2 dcI2 pmI2 anI2 cdI2 ctI2, PySem.W.fnOf "__init__" "TooLong.__init__" (defArgs sI3) (defBody sI3) (defScope sI3) .none kVI3 dcI3 pmI3 anI3 cdI3 ctI3, PySem.W.fnOf "__init__" "TooStrong.__init__" (defArgs sI4) (defBody sI4) (defScope sI4) .none kVI4 dcI4 pmI4 anI4 cdI4 ctI4, PySem.W.fnOf "__init__" "Weak.__init__" (defArgs sI5) (defBody sI5) (defScope sI5) .none kVI5 dcI5 pmI5 anI5 cdI5 ctI5, PySem.W.fnOf "__init__" "Poor.__init__" (defArgs sI6) (defBody sI6) (defScope sI6) .none kVI6 dcI6 pmI6 anI6 cdI6 ctI6].getD i (PySem.W.fnOf "__init__" "NoHouse.__init__" (defArgs sI0) (defBody sI0) (defScope sI0) .none kVI0 dcI0 pmI0 anI0 cdI0 ctI0)) :=
    ⟨ok_i0 FI0 (T.oex 0 (by decide)) (T.nof 0 (by decide)) oKept bKept kKept (PySem.W.mg_of X G aKept), bI0, aI0, tI0, ok_i1 FI1 (T.oex 1 (by decide)) (T.nof 1 (by decide)) oKept bKept kKept (PySem.W.mg_of X G aKept), bI1, aI1, tI1, ok_i2 FI2 (T.oex 2 (by decide)) (T.nof 2 (by decide)) oKept bKept kKept (PySem.W.mg_of X G aKept), bI2, aI2, tI2, ok_i3 FI3 (T.oex 3 (by decide)) (T.nof 3 (by decide)) oKept bKept kKept (PySem.W.mg_of X G aKept), bI3, aI3, tI3, ok_i4 FI4 (T.oex 4 (by decide)) (T.nof 4 (by decide)) oKept bKept kKept (PySem.W.mg_of X G aKept), bI4, aI4, tI4, ok_i5 FI5 (T.oex 5 (by decide)) (T.nof 5 (by decide)) oKept bKept kKept (PySem.W.mg_of X G aKept), bI5, aI5, tI5, ok_i6 FI6 (T.oex 6 (by decide)) (T.nof 6 (by decide)) oKept bKept kKept (PySem.W.mg_of X G aKept), bI6, aI6, tI6⟩
  exact ok_law (c := (pick30 [C0, C1, C2, C3, C4, C5, C6, C7, C8, C9, C10, C11, C12, C13, C14, C15, C16, C17, C18, C19, C20, C21, C22, C23, C24, C25, C26, C27, C28, C29])) FLaw
    { aPen := fPen, dPen := _, oPen := ok_pen FPen B, bPen := bPen, kPen := kPen, mPen := PySem.W.mg_of X G aPen
      aDraw := fDraw, dDraw := _, oDraw := oDraw, bDraw := bDraw, kDraw := kDraw, mDraw := PySem.W.mg_of X G aDraw
      aPick := fPick, dPick := _, oPick := oPick, bPick := bPick, kPick := kPick, mPick := PySem.W.mg_of X G aPick
      aOdd := fOdd, dOdd := _, oOdd := ok_odd FOdd oPick bPick kPick (PySem.W.mg_of X G aPick), bOdd := bOdd, kOdd := kOdd, mOdd := PySem.W.mg_of X G aOdd
      aMade := fMade, dMade := _, oMade := ok_made FMade T N, bMade := bMade, kMade := kMade, mMade := PySem.W.mg_of X G aMade
      aMarks := fMarks, dMarks := _, oMarks := ok_marks FMarks T B, bMarks := bMarks, kMarks := kMarks, mMarks := PySem.W.mg_of X G aMarks
      aUnder := fUnder, dUnder := _, oUnder := ok_under FUnder T B, bUnder := bUnder, kUnder := kUnder, mUnder := PySem.W.mg_of X G aUnder
      aFields := fFields, dFields := _, oFields := ok_fields FFields T, bFields := bFields, kFields := kFields, mFields := PySem.W.mg_of X G aFields } B
end Pk
open PySem PySem.W PyProof.Rows
set_option maxRecDepth 100000 in
set_option maxHeartbeats 0 in
theorem PySem.Challenge.cw_pawldials_k56_refusals_made_of_their_fie_holds : PySem.Challenge.rw_pawldials_k56_refusals_made_of_their_fie.Holds := by
  w_on; o_law; k_head; (case hw => w_witness2)
  k_fill
  refine Pk.walkG (l := PySem.Challenge.rw_pawldials_k56_refusals_made_of_their_fie) (n := 63) (k := 9) (x := "_law_script") (sp := Pk.spLaw) ⟨rfl, by decide, by decide⟩ rfl (by decide) rfl (fun w h Y => PySem.W.kIn_of Y) ?G (fun K H a ns hl hS => ⟨a, ns, rfl, hS, hl, fun _ => rfl⟩)
  case G =>
    intro w mg fa h KX G hmg
    refine' Pk.all_mk KX G hmg ?aC0 ?aC1 ?aC2 ?aC3 ?aC4 ?aC5 ?aC6 ?aC7 ?aC8 ?aC9 ?aC10 ?aC11 ?aC12 ?aC13 ?aC14 ?aC15 ?aC16 ?aC17 ?aC18 ?aC19 ?aC20 ?aC21 ?aC22 ?aC23 ?aC24 ?aC25 ?aC26 ?aC27 ?aC28 ?aC29 ?aD ?aI0 ?lI0 ?cI0 ?kI0 ?tI0 ?aI1 ?lI1 ?cI1 ?kI1 ?tI1 ?aI2 ?lI2 ?cI2 ?kI2 ?tI2 ?aI3 ?lI3 ?cI3 ?kI3 ?tI3 ?aI4 ?lI4 ?cI4 ?kI4 ?tI4 ?aI5 ?lI5 ?cI5 ?kI5 ?tI5 ?aI6 ?lI6 ?cI6 ?kI6 ?tI6 ?aKept ?lKept ?cKept ?kKept ?aPen ?lPen ?cPen ?kPen ?aDraw ?lDraw ?cDraw ?kDraw ?aPick ?lPick ?cPick ?kPick ?aOdd ?lOdd ?cOdd ?kOdd ?aMarks ?lMarks ?cMarks ?kMarks ?aUnder ?lUnder ?cUnder ?kUnder ?aMade ?lMade ?cMade ?kMade ?aFields ?lFields ?cFields ?kFields ?aLaw ?lLaw ?cLaw ?kLaw ?z_len ?z_abs ?z_list ?z_tuple ?z_dict ?z_isinstance ?z_range ?z_repr ?zV ?zL ?zK ?zI ?zR ?zA ?zT ?hchk
    (case aC0 => k_is); (case aC1 => k_is); (case aC2 => k_is); (case aC3 => k_is); (case aC4 => k_is); (case aC5 => k_is); (case aC6 => k_is); (case aC7 => k_is)
    (case aC8 => k_is); (case aC9 => k_is); (case aC10 => k_is); (case aC11 => k_is); (case aC12 => k_is); (case aC13 => k_is); (case aC14 => k_is); (case aC15 => k_is)
    (case aC16 => k_is); (case aC17 => k_is); (case aC18 => k_is); (case aC19 => k_is); (case aC20 => k_is); (case aC21 => k_is); (case aC22 => k_is); (case aC23 => k_is)
    (case aC24 => k_is); (case aC25 => k_is); (case aC26 => k_is); (case aC27 => k_is); (case aC28 => k_is); (case aC29 => k_is); (case aD => k_is); (case aI0 => k_is)
    (case lI0 => k_is); (case cI0 => k_is); (case kI0 => k_is); (case tI0 => k_is); (case aI1 => k_is); (case lI1 => k_is); (case cI1 => k_is); (case kI1 => k_is)
    (case tI1 => k_is); (case aI2 => k_is); (case lI2 => k_is); (case cI2 => k_is); (case kI2 => k_is); (case tI2 => k_is); (case aI3 => k_is); (case lI3 => k_is)
    (case cI3 => k_is); (case kI3 => k_is); (case tI3 => k_is); (case aI4 => k_is); (case lI4 => k_is); (case cI4 => k_is); (case kI4 => k_is); (case tI4 => k_is)
    (case aI5 => k_is); (case lI5 => k_is); (case cI5 => k_is); (case kI5 => k_is); (case tI5 => k_is); (case aI6 => k_is); (case lI6 => k_is); (case cI6 => k_is)
    (case kI6 => k_is); (case tI6 => k_is); (case aKept => k_is); (case lKept => k_is); (case cKept => k_is); (case kKept => k_is); (case aPen => k_is); (case lPen => k_is)
    (case cPen => k_is); (case kPen => k_is); (case aDraw => k_is); (case lDraw => k_is); (case cDraw => k_is); (case kDraw => k_is); (case aPick => k_is); (case lPick => k_is)
    (case cPick => k_is); (case kPick => k_is); (case aOdd => k_is); (case lOdd => k_is); (case cOdd => k_is); (case kOdd => k_is); (case aMarks => k_is); (case lMarks => k_is)
    (case cMarks => k_is); (case kMarks => k_is); (case aUnder => k_is); (case lUnder => k_is); (case cUnder => k_is); (case kUnder => k_is); (case aMade => k_is); (case lMade => k_is)
    (case cMade => k_is); (case kMade => k_is); (case aFields => k_is); (case lFields => k_is); (case cFields => k_is); (case kFields => k_is); (case aLaw => k_is); (case lLaw => k_is)
    (case cLaw => k_is); (case kLaw => k_is); (case z_len => k_is); (case z_abs => k_is); (case z_list => k_is); (case z_tuple => k_is); (case z_dict => k_is); (case z_isinstance => k_is)
    (case z_range => k_is); (case z_repr => k_is); (case zV => k_is); (case zL => k_is); (case zK => k_is); (case zI => k_is); (case zR => k_is); (case zA => k_is)
    (case zT => k_is)
    (case hchk => kernel_rfl)
