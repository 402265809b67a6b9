import PyProof.Rows.All
import Wide.All
import OpenK.AllK
import Wide.FinOn
import HandS.HeadHook4
import HandS.Head3
import HandS.ExcIs
import HandS.Words
import HandS.Evl
import HandS.Nested
import HandS.ForMost
import HandS.Wide
import HandS.WideBits
import HandS.Gcd
import HandS.IsInst
import HandS.AnyAll
import HandS.Style
import HandS.Flow
import HandS.GenOver
import HandS.EndOwn
import HandS.HeadWalk
import HandS.TupLe
import KE.KDictZip
import HandS.Iter
import HandS.Conv
import HandS.Deep
import KE.KMathG
import HandS.WordsExc
import HandS.ExcValue
import PyProof.ExcBaseAll.ValueError
import HandS.Text
import PyProof.StrBlock2
import KE.GoesMore
import KE.GoesEnum
import HandS.ExcCtx
import HandS.ExcInit
import KE.KExcSuper
import HandS.ExcInitHot
import HandS.FStr
import HandS.ExcField
import KE.KExcIs
import HandS.HotCalls
import PySem.Challenge.RW_otherhow_k04_house_refused_at_its_word
set_option Elab.async false
set_option linter.all false
set_option maxRecDepth 100000
set_option maxHeartbeats 4000000
set_option exponentiation.threshold 20000
/-! a hook over few objects: what names of the module reach by functions' code and classes' dicts -/
namespace HkL
open PySem PySem.Spec PyProof.Rows He
noncomputable def refsF (o : Obj) : List Addr := match o.data with
  | .dict es _ => es.toList.flatMap fun e => refV e.val
  | .func fd => refV fd.code ++ fd.closure.map (·.2)
  | .cls c => [c.ns]
  | _ => []
noncomputable def growF (g : Addr → Option Obj) (as : List Addr) : List Addr := as.flatMap fun a => match g a with
  | some o => refsF o
  | none => []
noncomputable def reach (g : Addr → Option Obj) : Nat → List Addr → List Addr
  | 0, as => as
  | n + 1, as => as ++ reach g n (growF g as)
noncomputable def few (g : Addr → Option Obj) : PySem.W.Frag := frT g (reach g 4 [mainGlobals] ++ [cStatics, sysModules])
noncomputable def obsY (fa : List Fa) (fn : List DefD) (tf : List Defn) (ex : PySem.W.Frag → Bool) (g : Addr → Option Obj) : AlX :=
  (obsT fa fn [] (few g), ex (few g) && tabsB g tf (few g))
theorem says_of {fa : List Fa} {fn : List DefD} {tf : List Defn} {ex : PySem.W.Frag → Bool} {w : World} {h : Heap} (e : obsY fa fn tf ex h.get? = valX fn [] w) : SaysX fa fn [] tf ex w h (few h.get?) := by
  have e1 : obsT fa fn [] (few h.get?) = valT fn [] w := congrArg Prod.fst e
  have e2 : (ex (few h.get?) && tabsB h.get? tf (few h.get?)) = true := congrArg Prod.snd e
  have e3 := Bool.and_eq_true_iff.mp e2
  have tab : ∀ p ∈ tf, PySem.W.codeHdIn (few h.get?) (cT (few h.get?) p).1 (cT (few h.get?) p).2 = true ∧ ∃ o, h.get? (cT (few h.get?) p).2 = some o ∧ emptyTab o = true := fun p hp => by
    have z := Bool.and_eq_true_iff.mp (List.all_eq_true.mp e3.2 p hp)
    refine ⟨z.1, ?_⟩
    have z2 := z.2
    split at z2
    · exact ⟨_, by assumption, z2⟩
    · cases z2
  refine ⟨e1, e3.1, fun p hp => (tab p hp).1, fun p hp => ?_, fun p hp => ?_⟩
  · obtain ⟨o, q, z⟩ := (tab p hp).2
    exact frT_none q z
  · obtain ⟨o, q, z⟩ := (tab p hp).2
    rw [q, emptyTab_eq z]
noncomputable def hookY (fa : List Fa) (fn : List DefD) (tf : List Defn) (ex : PySem.W.Frag → Bool) : PySem.W.Hook where
  α := AlX
  obs := fun s => obsY fa fn tf ex s.heap.get?
  val := fun w => valX fn [] w
  says := fun w h => ∃ K : PySem.W.Frag, K.In h ∧ SaysX fa fn [] tf ex w h K
  of := fun _ _ e => ⟨_, frT_in, says_of e⟩
  keeps := fun _ _ _ ⟨K, hK, c⟩ k => ⟨K, PySem.W.Frag.In.keeps hK k, ⟨c.t, c.more, c.hd, c.out, fun p hp => k _ _ (c.empty p hp)⟩⟩
theorem obsY_eq {fa : List Fa} {fn : List DefD} {tf : List Defn} {ex : PySem.W.Frag → Bool} {g : Addr → Option Obj} {s : Shared} (h : ∀ a, g a = s.heap.get? a) : obsY fa fn tf ex g = (hookY fa fn tf ex).obs s := by
  rw [funext h] <;> rfl
/-! what // of very long numbers asks -/
noncomputable def nsB (K : PySem.W.Frag) (a : Addr) (xs : List Str) : Bool := match K.lookup a with
  | some ⟨_, _, .dict es _, _⟩ => (es.toList.all fun e => match e.key with | .str _ _ => true | _ => false) && xs.all fun x => (nsFind es x).isNone
  | _ => false
noncomputable def mnB (K : PySem.W.Frag) : Bool := match K.lookup mainGlobals with
  | some ⟨_, _, .dict es _, _⟩ => (match nsFind es "__builtins__" with
    | some (.ref bm) => (match K.lookup bm with
      | some o => decide (o.cls = .type "module") && decide (o.dict = some builtinsNs)
      | none => false)
    | _ => false)
  | _ => false
noncomputable def seerB (K : PySem.W.Frag) : Bool := nsB K cStatics ["sys.audit-hooks", "sys.dict"] && (nsB K sysModules ["_pylong"] && mnB K)
/-! a def with a closure: its text, besides -/
noncomputable abbrev FnZ : Type := Option (Str × Str × Arguments × FuncBody × Scope × Addr × List Str × Addr)
noncomputable def fnZ (K : PySem.W.Frag) (p : Str × Option Str) : FnZ := match K.lookup (fAd K p) with
  | some ⟨_, _, .func fd, _⟩ => some (fd.name, fd.qualname, fd.params, fd.body, fd.scope, fd.globals, fd.closure.map (·.1), fd.builtins)
  | _ => none
/-- the text of an __init__ with super() in it -/
noncomputable abbrev mkZ (x q : Str) (ar : Arguments) (bd : List Stmt) (sc : Scope) : FnZ := some (x, q, ar, .stmts bd, sc, mainGlobals, ["__class__"], builtinsNs)
noncomputable abbrev AlZ : Type := AlX × FnZ
noncomputable def obsZ (fa : List Fa) (fn : List DefD) (tf : List Defn) (ex : PySem.W.Frag → Bool) (p : Str × Option Str) (g : Addr → Option Obj) : AlZ := (obsY fa fn tf ex g, fnZ (few g) p)
noncomputable def hookZ (fa : List Fa) (fn : List DefD) (tf : List Defn) (ex : PySem.W.Frag → Bool) (p : Str × Option Str) (v : FnZ) : PySem.W.Hook where
  α := AlZ
  obs := fun s => obsZ fa fn tf ex p s.heap.get?
  val := fun w => (valX fn [] w, v)
  says := fun w h => ∃ K : PySem.W.Frag, K.In h ∧ SaysX fa fn [] tf ex w h K ∧ fnZ K p = v
  of := fun _ _ e => ⟨_, frT_in, says_of (congrArg Prod.fst e), congrArg Prod.snd e⟩
  keeps := fun _ _ _ ⟨K, hK, c, z⟩ k => ⟨K, PySem.W.Frag.In.keeps hK k, ⟨c.t, c.more, c.hd, c.out, fun p hp => k _ _ (c.empty p hp)⟩, z⟩
theorem obsZ_eq {fa : List Fa} {fn : List DefD} {tf : List Defn} {ex : PySem.W.Frag → Bool} {p : Str × Option Str} {v : FnZ} {g : Addr → Option Obj} {s : Shared} (h : ∀ a, g a = s.heap.get? a) : obsZ fa fn tf ex p g = (hookZ fa fn tf ex p v).obs s := by
  rw [funext h] <;> rfl
end HkL
namespace HdG
open PySem PySem.Spec PySem.W PyProof.Rows HandSHeadRun
/-- what openSeen sees, by what the heap holds at an address, and by what is read of the program once -/
noncomputable def lookR : {F : (Addr → Option Obj) → Program → List Str → (Shared → Bool) → Shared → List DefRec → List Str → List ClsRec → List (DefRec × List PyData) → List ClsRec → List (DefRec × List (Str × Expr)) → List (Str × WData) → _ // ∀ q mods Xt s, openSeen q [] mods Xt true s = F s.heap.get? q mods Xt s (recsOf q) (looseW q []) (clssOf q (looseW q [])) (drecsOf q) (dclssOf q []) (wdefsOf q) (wlitsOf q)} := by
  refine ⟨?F, fun q mods Xt s => ?h⟩
  case h =>
    delta PySem.W.openSeen PySem.W.clsSeenW PySem.W.wclsSeen PySem.W.wideSeen PyProof.Rows.plainSeenD PyProof.Rows.plainSeenE PySem.pinSeenD PyProof.Rows.tabsOk PyProof.Rows.tablesOk PySem.Heap.accountedOkI PySem.Heap.keysOk PySem.Heap.bltView PyProof.Rows.seen PyProof.Rows.plainsOf
    delta PySem.Heap.ownExcOk PySem.Heap.quietOk PySem.Heap.noLimitOk PySem.Heap.noDigitsOk PySem.Heap.tupIntsOk PySem.Heap.tupStrsOk PySem.Heap.tabIntOk PyProof.Rows.valsOk PySem.Heap.noSeerOk PySem.Heap.bmainOk PySem.Heap.tab0Ok PySem.Heap.plainShapeAt PySem.Heap.plainShapeAtD PySem.Heap.shapeAtD PySem.Heap.restOk PySem.Heap.dfltOk
    delta PySem.Heap.constOk PySem.Heap.tab0At PySem.Heap.nsKeys PySem.Heap.nsPairs PySem.Heap.isNs PySem.Heap.clsAt PySem.Heap.methDfltOk PySem.Heap.shapeAt PySem.Heap.dfltNoneAt PySem.Heap.dfltOkAt
    delta PySem.Heap.codeRecOk PySem.Heap.fnAt PySem.Heap.nsMap
    dsimp only
    generalize PySem.Heap.get? s.heap = g
    generalize clssOf q (looseW q []) = C
    generalize looseW q [] = W
    generalize recsOf q = R
    generalize drecsOf q = Dr
    generalize dclssOf q [] = Dc
    generalize wdefsOf q = Wd
    generalize wlitsOf q = Wl
    exact rfl
noncomputable def goodR : {G : Program → List DefRec → List Str → List ClsRec → List (DefRec × List PyData) → List ClsRec → List (DefRec × List (Str × Expr)) → List (Str × WData) → _ // ∀ q, openGood q [] = G q (recsOf q) (looseW q []) (clssOf q (looseW q [])) (drecsOf q) (dclssOf q []) (wdefsOf q) (wlitsOf q)} := by
  refine ⟨?F, fun q => ?h⟩
  case h =>
    delta PySem.W.openGood PyProof.Rows.expectedOf PySem.pinGoodD PyProof.Rows.plainGoodE PyProof.Rows.plainGoodD PyProof.Rows.plainsOf PySem.W.wideGood
    generalize clssOf q (looseW q []) = C
    generalize looseW q [] = W
    generalize recsOf q = R
    generalize drecsOf q = Dr
    generalize dclssOf q [] = Dc
    generalize wdefsOf q = Wd
    generalize wlitsOf q = Wl
    exact rfl
section
variable {q : Program} {mods : List Str} {Xt : Shared → Bool} {s : Shared} {g : Addr → Option Obj} {R : List DefRec} {W : List Str} {D : List (DefRec × List PyData)} {E : List ClsRec} {Wd : List (DefRec × List (Str × Expr))} {Wl : List (Str × WData)}
theorem look_eq (hg : g = s.heap.get?) (hr : recsOf q = R) (hw : looseW q [] = W) (hd : drecsOf q = D) (he : dclssOf q [] = E) (hx : wdefsOf q = Wd) (hy : wlitsOf q = Wl) : openSeen q [] mods Xt true s = lookR.1 g q mods Xt s R W (clssOf q W) D E Wd Wl := by
  subst hg hr hw hd he hx hy
  exact lookR.2 _ _ _ _
theorem good_eq (hr : recsOf q = R) (hw : looseW q [] = W) (hd : drecsOf q = D) (he : dclssOf q [] = E) (hx : wdefsOf q = Wd) (hy : wlitsOf q = Wl) : openGood q [] = goodR.1 q R W (clssOf q W) D E Wd Wl := by
  subst hr hw hd he hx hy
  exact goodR.2 _
end
noncomputable def p1 {α β : Type} : α × β → α | (a, _) => a
noncomputable def p2 {α β : Type} : α × β → β | (_, b) => b
theorem two {α β γ : Type} {m : Option α} {f : α → β} {g : α → γ} {a : β} {b : γ} (h1 : m.map f = some a) (h2 : m.map g = some b) : m.map (fun x => (f x, g x)) = some (a, b) := by
  cases m with
  | none => cases h1
  | some x => cases h1; cases h2; rfl
theorem spl {α β γ : Type} {m : Option α} {f : α → β × γ} {a : β × γ} (h1 : m.map (fun x => (f x).1) = some (p1 a)) (h2 : m.map (fun x => (f x).2) = some (p2 a)) : m.map f = some a := by
  cases m with
  | none => cases h1
  | some x => exact congrArg some (Prod.ext (Option.some.inj h1) (Option.some.inj h2))
theorem fst2 {α β γ : Type} {m : Option α} {f : α → β} {g : α → γ} {a : β} {b : γ} (h : m.map (fun x => (f x, g x)) = some (a, b)) : m.map f = some a := by
  cases m with
  | none => cases h
  | some x => exact congrArg some (congrArg Prod.fst (Option.some.inj h))
theorem snd2 {α β γ : Type} {m : Option α} {f : α → β} {g : α → γ} {a : β} {b : γ} (h : m.map (fun x => (f x, g x)) = some (a, b)) : m.map g = some b := by
  cases m with
  | none => cases h
  | some x => exact congrArg some (congrArg Prod.snd (Option.some.inj h))
end HdG
namespace Oh
open PySem PySem.Spec PyProof.Rows L2
/-- what isinstance asks of an exception class, as one Boolean -/
noncomputable def excX (K : PySem.W.Frag) (x : Str) : Bool := He.eqO (PySem.W.findIn K (.ref (He.ga K x)) "__getattribute__") (some (some (.builtin "BaseException.__getattribute__"))) && (He.eqO (PySem.W.findIn K (.ref (He.ga K x)) "__getattr__") (some none) && (decide (PySem.W.subIn K (.ref (He.ga K x)) (.type "BaseException") = some true) && (PySem.W.hasDictIn K (He.ga K x) &&
  (He.eqO (PySem.W.findIn K (.ref (He.ga K x)) "__class__") (some (some (.builtin "object.__class__"))) && (He.eqO (PySem.W.specialIn K (.builtin "object.__class__") "__get__") (some (some (.builtin "getset_descriptor.__get__"))) && (decide (PySem.W.takesIn K (.builtin "object.__class__") = some true) && decide (PySem.W.mroIn K (He.ga K x) (.type "object") = some true)))))))
theorem excX_ok {K : PySem.W.Frag} {x : Str} (h : excX K x = true) : ExcC K (He.ga K x) := by
  obtain ⟨h1, h⟩ := He.ba h
  obtain ⟨h2, h⟩ := He.ba h
  obtain ⟨h3, h⟩ := He.ba h
  obtain ⟨h4, h⟩ := He.ba h
  obtain ⟨h5, h⟩ := He.ba h
  obtain ⟨h6, h⟩ := He.ba h
  obtain ⟨h7, h8⟩ := He.ba h
  exact ⟨He.eqO_ok h1, He.eqO_ok h2, of_decide_eq_true h3, h4, He.eqO_ok h5, He.eqO_ok h6, of_decide_eq_true h7, of_decide_eq_true h8⟩
noncomputable def kitX (K : PySem.W.Frag) (x y : Str) (b : Bool) : Bool := decide (PySem.W.kitOne K (.ref (He.ga K x)) (.ref (He.ga K y)) = some b)
/-- what raise x(e) asks, x an own exception class whose __init__ says super().__init__(..): one Boolean -/
noncomputable def clsB (K : PySem.W.Frag) (C : Addr) : Bool := match K.lookup C with
  | some ⟨.type "type", _, .cls cd, sl⟩ => (match cd.mro, sl.toList with
    | [.ref C', .ref _, .type a, .type b, .type c, .type d], [_, _, _, _, some (.builtin n), _] => C' == C && n == "ValueError.__new__" && !cd.hasDel && cd.hasDict && (a == "ValueError" && b == "Exception" && c == "BaseException" && d == "object")
    | _, _ => false)
  | _ => false
noncomputable def oexB (K : PySem.W.Frag) (C : Addr) : Bool := clsB K C && (He.eqO (PySem.W.findIn K (.ref C) "__setattr__") (some (some (.builtin "object.__setattr__"))) && (decide (PySem.W.subIn K (.ref C) (.type "BaseException") = some true) && (decide (PySem.W.typeIn K (.ref C) = some (.type "type")) && PySem.W.keepIn K (.ref C))))
noncomputable def supAlong (K : PySem.W.Frag) (C : Addr) : Option (Option Value) := (PySem.W.clsIn K C).bind fun cd => PySem.W.alongIn K "__init__" ((cd.mro.dropWhile (· != .ref C)).drop 1)
noncomputable def fnB (K : PySem.W.Frag) (f C : Addr) (qual file : Str) : Bool := match K.lookup f with
  | some ⟨_, _, .func fd, _⟩ => (match fd.closure, fd.code, fd.defaults, fd.kwdefaults, fd.annotations with
    | [(_, cc)], .ref cda, .none, .none, none => PySem.W.codeIn K (.ref cda) qual && ((match K.lookup cc with
        | some ⟨_, _, .cell (some (.ref C')), _⟩ => C' == C
        | _ => false) && (match K.lookup cda with
        | some ⟨_, _, .fields vs, _⟩ => (match (vs[2]? : Option Value) with
          | some (.str g _) => g == file
          | _ => false)
        | _ => false))
    | _, _, _, _, _ => false)
  | _ => false
noncomputable def badB (K : PySem.W.Frag) (x qual file : Str) : Bool := oexB K (He.ga K x) && (fnB K (He.fAd K (x, some "__init__")) (He.ga K x) qual file && (decide (PySem.W.mroIn K (He.ga K x) (.ref (He.ga K x)) = some true) && (He.eqO (PySem.W.nsIn K cStatics "thirdparty.any") (some none) && (He.eqO (supAlong K (He.ga K x)) (some (some (.builtin "ValueError.__init__"))) &&
  (decide (PySem.W.subIn K (.ref (He.ga K x)) (.type "ValueError") = some true) && (He.eqO (PySem.W.findIn K (.ref (He.ga K x)) "__init__") (some (some (.ref (He.fAd K (x, some "__init__"))))) && (decide (PySem.W.typeIn K (.ref (He.fAd K (x, some "__init__"))) = some (.type "function")) && He.eqO (PySem.W.findIn K (.ref (He.ga K x)) "at") (some none))))))))
noncomputable def xfX (K : PySem.W.Frag) (x : Str) : Bool := He.eqO (PySem.W.findIn K (.ref (He.ga K x)) "__getattribute__") (some (some (.builtin "BaseException.__getattribute__"))) && (He.eqO (PySem.W.findIn K (.ref (He.ga K x)) "__getattr__") (some none) && (decide (PySem.W.subIn K (.ref (He.ga K x)) (.type "BaseException") = some true) && PySem.W.hasDictIn K (He.ga K x)))
noncomputable def kitT (K : PySem.W.Frag) (x : Str) (y : String) (b : Bool) : Bool := decide (PySem.W.kitOne K (.ref (He.ga K x)) (.type y) = some b)
noncomputable def exmX (K : PySem.W.Frag) (x y : Str) (b : Bool) : Bool := decide (PySem.W.exmOne K (.ref (He.ga K x)) (.ref (He.ga K y)) = some b)
end Oh
/-! the head: what the top leaves, by runs of the kernel -/
namespace Hd
open PySem PySem.Spec PySem.W PyProof.Rows L2 HandSHeadRun
noncomputable def top (i : Nat) : Stmt := PySem.Challenge.pw_otherhow_k04_house_refused_at_its_word.main.body.getD i (.Pass ⟨0, 0, 0, 0⟩)
noncomputable abbrev R : OpenRow := OpenLaw.row PySem.Challenge.rw_otherhow_k04_house_refused_at_its_word
noncomputable def q : Program := view R.prog [1, 2, 3, 4, 6, 7, 8, 9, 10, 12, 14, 15, 16, 17, 18, 19, 20, 21, 22, 23, 25, 26, 27, 28, 29, 30, 31, 32, 33, 34, 35, 36, 37, 38, 39, 40, 41, 42, 43, 44, 45, 46]
noncomputable abbrev dd (p : Str × Option Str) (x u : Str) (s : Stmt) : He.DefD := ⟨p, x, u, defArgs s, defBody s, defScope s, [], []⟩
noncomputable def fn : List He.DefD := [dd ("_law_row", none) "_law_row" "_law_row" (top 26), dd ("_law_size", none) "_law_size" "_law_size" (top 27), dd ("_law_count_ways", none) "_law_count_ways" "_law_count_ways" (top 31), dd ("_law_shape", none) "_law_shape" "_law_shape" (top 32), dd ("_law_kept", none) "_law_kept" "_law_kept" (top 28), dd ("_law_name", none) "_law_name" "_law_name" (top 29), dd ("_law_names", none) "_law_names" "_law_names" (top 30), dd ("_law_house", none) "_law_house" "_law_house" (top 33), dd ("_law_text_words", none) "_law_text_words" "_law_text_words" (top 34), dd ("_law_is_name", none) "_law_is_name" "_law_is_name" (top 38), dd ("_law_read_names", none) "_law_read_names" "_law_read_names" (top 39), dd ("_law_read_heard", none) "_law_read_heard" "_law_read_heard" (top 40), dd ("_law_read_variable", none) "_law_read_variable" "_law_read_variable" (top 41), dd ("_law_read", none) "_law_read" "_law_read" (top 42), dd ("Reader", some "__init__") "__init__" "Reader.__init__" (inClass (top 10) 0), dd ("Reader", some "ended") "ended" "Reader.ended" (inClass (top 10) 1), dd ("Reader", some "coming") "coming" "Reader.coming" (inClass (top 10) 2), dd ("Reader", some "take") "take" "Reader.take" (inClass (top 10) 3), dd ("Reader", some "finish") "finish" "Reader.finish" (inClass (top 10) 6), dd ("House", some "__init__") "__init__" "House.__init__" (inClass (top 16) 0), dd ("size", none) "size" "size" (top 12), dd ("heard_bounds", none) "heard_bounds" "heard_bounds" (top 17), dd ("answer_bounds", none) "answer_bounds" "answer_bounds" (top 18), dd ("way_count", none) "way_count" "way_count" (top 19), dd ("words_after", none) "words_after" "words_after" (top 21), dd ("is_name", none) "is_name" "is_name" (top 9), dd ("Reader", some "take_name") "take_name" "Reader.take_name" (inClass (top 10) 5), dd ("read_words", none) "read_words" "read_words" (top 22), dd ("Reader", some "take_index") "take_index" "Reader.take_index" (inClass (top 10) 4), dd ("read_heard", none) "read_heard" "read_heard" (top 23), dd ("parse_house", none) "parse_house" "parse_house" (top 20), dd ("_law_is_integer", none) "_law_is_integer" "_law_is_integer" (top 25), dd ("_law_told", none) "_law_told" "_law_told" (top 45), dd ("_law_new_word", none) "_law_new_word" "_law_new_word" (top 43), dd ("_law_changed", none) "_law_changed" "_law_changed" (top 44), dd ("_law_spaced", none) "_law_spaced" "_law_spaced" (top 36), dd ("_law_same", none) "_law_same" "_law_same" (top 37), dd ("_law_same_house", none) "_law_same_house" "_law_same_house" (top 35), dd ("law", none) "law" "law" (top 46)]
noncomputable def fa : List He.Fa := [.glo "_law_row", .glo "_law_size", .glo "_law_count_ways", .glo "_law_shape", .glo "_law_kept", .glo "_law_name", .glo "_law_names", .glo "_law_house", .glo "_law_text_words", .glo "_law_is_name", .glo "_law_read_names", .glo "_law_read_heard", .glo "_law_read_variable", .glo "_law_read", .mkr "Reader", .meth "Reader" "ended", .meth "Reader" "coming", .meth "Reader" "take", .meth "Reader" "finish", .mkr "House", .glo "size", .glo "heard_bounds", .glo "answer_bounds", .glo "way_count", .glo "words_after", .glo "is_name", .meth "Reader" "take_name", .glo "read_words", .meth "Reader" "take_index", .glo "read_heard", .glo "parse_house", .glo "_law_is_integer", .glo "_law_told", .glo "_law_new_word", .glo "_law_changed", .glo "_law_spaced", .glo "_law_same", .glo "_law_same_house", .glo "law", .glo "Reader", .cls "Reader", .noat "Reader" "words", .noat "Reader" "at", .glo "House", .cls "House", .noat "House" "names", .noat "House" "words", .noat "House" "heard", .free "ValueError", .free "all", .free "bool", .free "int", .free "isinstance", .free "len", .free "list", .free "max", .free "range", .free "str", .free "super", .free "tuple", .str "LETTERS" "abcdefghijklmnopqrstuvwxyz", .str "DIGITS" "0123456789", .glo "NOT_NAMES", .int "MOST_VARIABLES" (5), .int "MOST_WAYS" (512), .glo "NotAllowed", .glo "BeenError", .glo "BadText", .glo "UnknownName", .exc "NotAllowed"]
noncomputable def tf : List He.Defn := [("is_name", none)]
noncomputable def ex (K : PySem.W.Frag) : Bool := (He.tupB K "NOT_NAMES" [.str "house", .str "variable", .str "says", .str "hears", .str "end", .str "if", .str "and", .str "ignores", .str "rises", .str "falls", .str "with", .str "never", .str "when"] && ((He.eqO (PySem.W.findIn K (.ref (He.ga K "House")) "__class__") (some (some (.builtin "object.__class__"))) && (He.eqO (PySem.W.specialIn K (.builtin "object.__class__") "__get__") (some (some (.builtin "getset_descriptor.__get__"))) && (decide (PySem.W.takesIn K (.builtin "object.__class__") = some true) && decide (PySem.W.mroIn K (He.ga K "House") (.type "object") = some true)))) && (Oh.badB K "BadText" "BadText.__init__" R.prog.main.file && (Oh.xfX K "BadText" && (Oh.excX K "BadText" && (Oh.exmX K "BadText" "BadText" true && (He.eqO (PySem.W.findIn K (.ref (He.ga K "BadText")) "at") (some none) && (Oh.kitX K "BadText" "UnknownName" false && (Oh.kitX K "BadText" "NotAllowed" false && (Oh.kitX K "BadText" "BeenError" true && (Oh.kitT K "BadText" "ValueError" true && (Oh.excX K "NotAllowed" && (Oh.exmX K "NotAllowed" "BadText" false && (Oh.exmX K "NotAllowed" "NotAllowed" true && (Oh.kitX K "NotAllowed" "UnknownName" false && (Oh.kitX K "NotAllowed" "BeenError" true && true))))))))))))))))
noncomputable abbrev sB : Stmt := inClass (top 2) 0
noncomputable def zv : HkL.FnZ := HkL.mkZ "__init__" "BadText.__init__" (defArgs sB) (defBody sB) (defScope sB)
noncomputable abbrev hk : Hook := HkL.hookZ fa fn tf ex ("BadText", some "__init__") zv
noncomputable def ob (s : SharedT) : HkL.AlZ := HkL.obsZ fa fn tf ex ("BadText", some "__init__") (getT s)
theorem ob_eq (s : SharedT) : ob s = hk.obs s.abs := HkL.obsZ_eq (getT_eq s)
noncomputable abbrev whole (w : World) : Option (Shared × SharedT) := wholeF (fun p => stepQ (denQ tabQ) p w) fenceQ 20000 R.prog
noncomputable abbrev sq (x : Shared × SharedT) := seenQ q [] (importedModules R.prog.main.body) (fun s => xlAt q [] s && recOk R.toRowW.records s) x.2.abs
noncomputable def posO (st : Stmt) : Pos := match st with | .FunctionDef _ _ _ _ _ _ _ _ _ p => p | _ => ⟨0, 0, 0, 0⟩
noncomputable def namO (st : Stmt) : Str := match st with | .FunctionDef n _ _ _ _ _ _ _ _ _ => n | _ => ""
noncomputable def RL : List DefRec := [9, 12, 17, 18, 19, 20, 21, 22, 23, 25, 26, 27, 28, 29, 30, 31, 32, 33, 34, 35, 36, 37, 38, 39, 40, 41, 42, 43, 44, 45, 46].map fun i => ⟨namO (top i), defArgs (top i), defBody (top i), defScope (top i), posO (top i)⟩
noncomputable def WL : List Str := ["NOT_NAMES"]
noncomputable def WLL : List (Str × WData) := [("NOT_NAMES", .tuple [.str "house", .str "variable", .str "says", .str "hears", .str "end", .str "if", .str "and", .str "ignores", .str "rises", .str "falls", .str "with", .str "never", .str "when"])]
theorem recs_eq : recsOf q = RL := by kernel_rfl
theorem drecs_eq : drecsOf q = [] := by kernel_rfl
theorem dcls_eq : dclssOf q [] = [] := by kernel_rfl
theorem loose_eq : looseW q [] = WL := by kernel_rfl
theorem wdefs_eq : wdefsOf q = [] := by kernel_rfl
theorem wlits_eq : wlitsOf q = WLL := by kernel_rfl
noncomputable abbrev gq (x : Shared × SharedT) := HdG.lookR.1 (getT x.2) q (importedModules R.prog.main.body) (fun s => xlAt q [] s && recOk R.toRowW.records s) x.2.abs RL WL (clssOf q WL) [] [] [] WLL
noncomputable def gd := HdG.goodR.1 q RL WL (clssOf q WL) [] [] [] WLL
theorem run_b (w : World) : (whole w).map gq = some gd := by kernel_rfl
theorem run_a (w : World) : (whole w).map (fun x => (looksF R.prog x.1.heap x.2.abs, ob x.2)) = some (true, hk.val w) := by kernel_rfl
theorem sq_gq (x : Shared × SharedT) : sq x = gq x := (seenQ_eq _ _ _ _ _).symm.trans (HdG.look_eq (funext fun a => getT_eq x.2 a) recs_eq loose_eq drecs_eq dcls_eq wdefs_eq wlits_eq)
theorem seen_sq (w : World) : (whole w).map sq = some (openGood q []) := (congrArg (fun f => (whole w).map f) (funext sq_gq)).trans ((run_b w).trans (congrArg some (HdG.good_eq recs_eq loose_eq drecs_eq dcls_eq wdefs_eq wlits_eq).symm))
theorem run (w : World) : RunEqI R q hk ob 20000 [] w := HdG.two (HdG.fst2 (run_a w)) (HdG.two (seen_sq w) (HdG.snd2 (run_a w)))
end Hd
namespace Oh
open PySem PySem.Spec PyProof.Rows L2 Evl NdefX
/-! ### cells that are known to the abstract heap for a while (a closure handed to another def) -/
noncomputable abbrev fzc (o : Obj) : HO := .frz o (.ext fun _ => True)
noncomputable def offC (cs : List Addr) (H : Hp) : Hp := fun b => if b ∈ cs then none else H b
section
variable {P : Program} {w : World} {cs : List Addr} {H H' : Hp} {h h' : Heap} {ob : Addr → Obj}
theorem offC_in {b : Addr} (hb : b ∈ cs) : offC cs H b = none := if_pos hb
end
end Oh
namespace Oh
open PySem PySem.Spec PyProof.Rows L2 Evl NdefX LamX
/-- what a closure's cells hold, as long as they are known -/
structure CloC (cells : List (Str × Addr)) (fr : List Str) (ws : List V) (H : Hp) : Prop where
  len : ws.length = fr.length
  fz : ∀ p ∈ cells, ∃ o v, H p.2 = some (fzc o) ∧ o.data = .cell v
  inj : ∀ x y c, cells.lookup x = some c → cells.lookup y = some c → x = y
  has : ∀ (i : Nat) (y : Str), fr[i]? = some y → ∃ c, cells.lookup y = some c ∧ ∃ o u v, ws[i]? = some v ∧ H c = some (fzc o) ∧ o.data = .cell (some u) ∧ RelV v u
theorem CloC.mono {cells : List (Str × Addr)} {fr : List Str} {ws : List V} {H H' : Hp} (e : Ex H H') (c : CloC cells fr ws H) : CloC cells fr ws H' := ⟨c.len, fun p hp => let ⟨o, v, h1, h2⟩ := c.fz p hp; ⟨o, v, e _ _ h1, h2⟩, c.inj, fun i y hy => let ⟨a, h1, o, u, v, h2, h3, h4, h5⟩ := c.has i y hy; ⟨a, h1, o, u, v, h2, e _ _ h3, h4, h5⟩⟩
theorem lookup_mem {α β : Type} [BEq α] [LawfulBEq α] {l : List (α × β)} {a : α} {b : β} (h : l.lookup a = some b) : (a, b) ∈ l := by
  induction l with
  | nil => cases h
  | cons p l ih =>
    obtain ⟨k, v⟩ := p
    rw [List.lookup_cons] at h
    split at h
    · rename_i e
      cases h
      rw [eq_of_beq e]; exact List.mem_cons_self
    · exact List.mem_cons_of_mem _ (ih h)
theorem CloC.at {P : Program} {w : World} {cells : List (Str × Addr)} {fr : List Str} {ws : List V} {H : Hp} {h : Heap} (c : CloC cells fr ws H) (x : HOk P w H h) : CellsAt cells fr (ws.map some) h (offC (cells.map (·.2)) H) := by
  refine ⟨by rw [List.length_map]; exact c.len, fun y a e => ?_, c.inj, fun i y e => ?_⟩
  · have hm := lookup_mem e
    obtain ⟨o, v, e1, e2⟩ := c.fz _ hm
    exact ⟨offC_in (List.mem_map.mpr ⟨_, hm, rfl⟩), v, o, (x _ _ e1).1, e2⟩
  · obtain ⟨a, ha, o, u, v, e1, e2, e3, r⟩ := c.has i y e
    refine ⟨a, ha, fun v' ev => ?_⟩
    rw [List.getElem?_map, e1] at ev
    cases ev
    exact ⟨u, r, o, (x _ _ e2).1, e3⟩
section
variable {X : Cx} {CX : CXT} {mk : List (Str × Addr) → Addr → NF} {ps fr : List Str} {i j k : Nat} {x : Str} {sp : List (Option V) → Sp} {t : TA} {e : Expr} {es : List Expr} {p pos : Pos}
end
end Oh
namespace Oh
open PySem PySem.Spec PyProof.Rows L2 Evl

/-- a value with all that hangs on it -/
inductive D where
  | non | bl (b : Bool) | int (i : Int) | str (x : Str) | lst (xs : List D) | rol (xs : List D) | tup (xs : List D) | ob (c : Nat) (fs : List (Str × D)) | dic (ks : List (Key × D)) | oba (a : Addr) (c : Nat) (fs : List (Str × D)) | fn (j : Nat) (fr : List Str) (ds : List D)

/-- the classes' addresses, the tables' addresses -/
structure Cl where
  c : Nat → Addr
  t : List Addr
  f : Nat → Stmt × Str × Str
class NT (u : HO) : Prop where
  nt : ∀ ps, u ≠ .tbl ps
instance {xs : List V} : NT (.lst xs) := ⟨fun _ z => nomatch z⟩
instance {xs : List V} : NT (.tup xs) := ⟨fun _ z => nomatch z⟩
instance {C dx : Addr} {fs : List (Str × V)} : NT (.ins C dx fs) := ⟨fun _ z => nomatch z⟩
instance {ks : List (Key × V)} : NT (.dK ks) := ⟨fun _ z => nomatch z⟩
instance {a : Addr} : NT (.own a) := ⟨fun _ z => nomatch z⟩
instance {o : Obj} {u : HO} : NT (.frz o u) := ⟨fun _ z => nomatch z⟩
/-- all that is no table stands; a table may grow -/
structure Ex2 (H H' : Hp) : Prop where
  k : ∀ a (u : HO) [NT u], H a = some u → H' a = some u
  b : ∀ a ps, H a = some (.tbl ps) → ∃ ps', H' a = some (.tbl ps') ∧ (TriplesOk ps.toList → TriplesOk ps'.toList)
instance {H H' : Hp} : CoeFun (Ex2 H H') (fun _ => ∀ a (u : HO) [NT u], H a = some u → H' a = some u) := ⟨Ex2.k⟩
theorem Ex2.of {H H' : Hp} (e : Ex H H') : Ex2 H H' := ⟨fun a u _ h => e a u h, fun a ps h => ⟨ps, e _ _ h, id⟩⟩
theorem Ex2.refl (H : Hp) : Ex2 H H := Ex2.of (Ex.refl _)
theorem Ex2.trans {H H1 H2 : Hp} (a : Ex2 H H1) (b : Ex2 H1 H2) : Ex2 H H2 := ⟨fun x u _ h => b x u (a x u h), fun x ps h => by
  obtain ⟨p1, h1, g1⟩ := a.b x ps h
  obtain ⟨p2, h2, g2⟩ := b.b x p1 h1
  exact ⟨p2, h2, fun z => g2 (g1 z)⟩⟩
theorem Ex2.new {H : Hp} {p : Addr} {o : HO} (h : H p = none) : Ex2 H (upd H p o) := Ex2.of (Ex.new h)
theorem Ex2.mut {H H' : Hp} {p : Addr} {o : HO} (e : Ex2 H H') (h : H p = none) : Ex2 H (upd H' p o) := ⟨fun a u _ ha => by
  rw [upd_ne (ne_of_none ha h)]
  exact e a u ha, fun a ps ha => by
  rw [upd_ne (ne_of_none ha h)]
  exact e.b a ps ha⟩
theorem Ex2.back {H H' : Hp} {p : Addr} (e : Ex2 H H') (h : H' p = none) : H p = none := by
  cases h1 : H p with
  | none => rfl
  | some u =>
    by_cases z : ∃ ps, u = .tbl ps
    · obtain ⟨ps, rfl⟩ := z
      obtain ⟨p2, h2, _⟩ := e.b p ps h1
      rw [h2] at h; cases h
    · have : NT u := ⟨fun ps q => z ⟨ps, q⟩⟩
      rw [e p u h1] at h; cases h
theorem Ex2.some {H H' : Hp} {p : Addr} (e : Ex2 H H') (h : H p ≠ none) : H' p ≠ none := fun z => h (e.back z)
theorem ex2_l {K : PySem.W.Frag} {H H' : Hp} {a : Addr} {xs : List V} (e : Ex2 H H') (h : SqL K H a xs) : SqL K H' a xs := by
  rcases h with (h | ⟨o, h⟩) | h
  · exact Or.inl (Or.inl (e _ _ h))
  · exact Or.inl (Or.inr ⟨o, e _ _ h⟩)
  · exact Or.inr h
mutual
inductive Rep (K : PySem.W.Frag) (cl : Cl) (G : Hp) : V → D → Prop
  | non : Rep K cl G .non .non
  | bl {b : Bool} : Rep K cl G (.bl b) (.bl b)
  | int {i : Int} : Rep K cl G (.int i) (.int i)
  | str {x : Str} : Rep K cl G (.str x) (.str x)
  | lst {a : Addr} {vs : List V} {ds : List D} : G a = some (.lst vs) → Reps K cl G vs ds → Rep K cl G (.ref a) (.lst ds)
  | rol {a : Addr} {vs : List V} {ds : List D} : SqL K G a vs → Reps K cl G vs ds → Rep K cl G (.ref a) (.rol ds)
  | tup {a : Addr} {vs : List V} {ds : List D} : SqT K G a vs → Reps K cl G vs ds → Rep K cl G (.ref a) (.tup ds)
  | ob {a dx : Addr} {c : Nat} {fs : List (Str × V)} {ds : List (Str × D)} : G a = some (.ins (cl.c c) dx fs) → FReps K cl G fs ds → Rep K cl G (.ref a) (.ob c ds)
  | dic {a : Addr} {kvs : List (Key × V)} {ks : List (Key × D)} : G a = some (.dK kvs) → KReps K cl G kvs ks → Rep K cl G (.ref a) (.dic ks)
  | oba {a dx : Addr} {c : Nat} {fs : List (Str × V)} {ds : List (Str × D)} : G a = some (.ins (cl.c c) dx fs) → FReps K cl G fs ds → Rep K cl G (.ref a) (.oba a c ds)
  | fn {a c' : Addr} {j : Nat} {fr : List Str} {cells : List (Str × Addr)} {ws : List V} {ds : List D} : G a = some (NdefX.FnO a (NdefX.NF.of (cl.f j).1 (cl.f j).2.1 (cl.f j).2.2 cells c')) → G c' = some (LamX.CodeO c' (cl.f j).2.2) → CloC cells fr ws G → Reps K cl G ws ds → Rep K cl G (.ref a) (.fn j fr ds)
inductive Reps (K : PySem.W.Frag) (cl : Cl) (G : Hp) : List V → List D → Prop
  | nil : Reps K cl G [] []
  | cons {v : V} {vs : List V} {d : D} {ds : List D} : Rep K cl G v d → Reps K cl G vs ds → Reps K cl G (v :: vs) (d :: ds)
inductive FReps (K : PySem.W.Frag) (cl : Cl) (G : Hp) : List (Str × V) → List (Str × D) → Prop
  | nil : FReps K cl G [] []
  | cons {n : Str} {v : V} {vs : List (Str × V)} {d : D} {ds : List (Str × D)} : Rep K cl G v d → FReps K cl G vs ds → FReps K cl G ((n, v) :: vs) ((n, d) :: ds)
inductive KReps (K : PySem.W.Frag) (cl : Cl) (G : Hp) : List (Key × V) → List (Key × D) → Prop
  | nil : KReps K cl G [] []
  | cons {n : Key} {v : V} {vs : List (Key × V)} {d : D} {ds : List (Key × D)} : Rep K cl G v d → KReps K cl G vs ds → KReps K cl G ((n, v) :: vs) ((n, d) :: ds)
end

section
variable {K : PySem.W.Frag} {cl : Cl} {G G' H H' : Hp}
mutual
theorem Rep.mono (e : Ex G G') : ∀ {v d}, Rep K cl G v d → Rep K cl G' v d
  | _, _, .non => .non
  | _, _, .bl => .bl
  | _, _, .int => .int
  | _, _, .str => .str
  | _, _, .lst h r => .lst (e _ _ h) (Reps.mono e r)
  | _, _, .rol h r => .rol (ex_l e h) (Reps.mono e r)
  | _, _, .tup h r => .tup (ex_t e h) (Reps.mono e r)
  | _, _, .ob h r => .ob (e _ _ h) (FReps.mono e r)
  | _, _, .dic h r => .dic (e _ _ h) (KReps.mono e r)
  | _, _, .oba h r => .oba (e _ _ h) (FReps.mono e r)
  | _, _, .fn h1 h2 h3 r => .fn (e _ _ h1) (e _ _ h2) (h3.mono e) (Reps.mono e r)
theorem Reps.mono (e : Ex G G') : ∀ {v d}, Reps K cl G v d → Reps K cl G' v d
  | _, _, .nil => .nil
  | _, _, .cons h r => .cons (Rep.mono e h) (Reps.mono e r)
theorem FReps.mono (e : Ex G G') : ∀ {v d}, FReps K cl G v d → FReps K cl G' v d
  | _, _, .nil => .nil
  | _, _, .cons h r => .cons (Rep.mono e h) (FReps.mono e r)
theorem KReps.mono (e : Ex G G') : ∀ {v d}, KReps K cl G v d → KReps K cl G' v d
  | _, _, .nil => .nil
  | _, _, .cons h r => .cons (Rep.mono e h) (KReps.mono e r)
end
theorem Reps.length : ∀ {vs ds}, Reps K cl G vs ds → vs.length = ds.length
  | _, _, .nil => rfl
  | _, _, .cons _ r => congrArg (· + 1) (Reps.length r)
theorem Reps.get : ∀ {vs : List V} {ds : List D} {i : Nat} {d : D}, Reps K cl G vs ds → ds[i]? = some d → ∃ v, vs[i]? = some v ∧ Rep K cl G v d
  | _, _, _, _, .nil, h => by simp at h
  | _, _, 0, _, .cons r _, h => ⟨_, rfl, by simp at h; rw [← h]; exact r⟩
  | _, _, i + 1, _, .cons _ t, h => by
    obtain ⟨v, h1, h2⟩ := Reps.get (i := i) t (by simpa using h)
    exact ⟨v, by simpa using h1, h2⟩
theorem Reps.append : ∀ {vs ds ws es}, Reps K cl G vs ds → Reps K cl G ws es → Reps K cl G (vs ++ ws) (ds ++ es)
  | _, _, _, _, .nil, s => s
  | _, _, _, _, .cons r t, s => .cons r (Reps.append t s)
theorem Reps.drop : ∀ {vs ds} (n : Nat), Reps K cl G vs ds → Reps K cl G (vs.drop n) (ds.drop n)
  | _, _, 0, r => r
  | _, _, _ + 1, .nil => .nil
  | _, _, n + 1, .cons _ t => Reps.drop n t
theorem Reps.take : ∀ {vs ds} (n : Nat), Reps K cl G vs ds → Reps K cl G (vs.take n) (ds.take n)
  | _, _, 0, _ => .nil
  | _, _, _ + 1, .nil => .nil
  | _, _, n + 1, .cons r t => .cons r (Reps.take n t)
theorem Reps.set : ∀ {vs ds v d} (n : Nat), Rep K cl G v d → Reps K cl G vs ds → Reps K cl G (vs.set n v) (ds.set n d)
  | _, _, _, _, _, _, .nil => .nil
  | _, _, _, _, 0, r, .cons _ t => .cons r t
  | _, _, _, _, n + 1, r, .cons q t => .cons q (Reps.set n r t)
theorem Reps.eraseIdx : ∀ {vs ds} (n : Nat), Reps K cl G vs ds → Reps K cl G (vs.eraseIdx n) (ds.eraseIdx n)
  | _, _, _, .nil => .nil
  | _, _, 0, .cons _ t => t
  | _, _, n + 1, .cons q t => .cons q (Reps.eraseIdx n t)
theorem FReps.lookup : ∀ {vs ds} {n : Str} {d : D}, FReps K cl G vs ds → ds.lookup n = some d → ∃ v, vs.lookup n = some v ∧ Rep K cl G v d
  | _, _, _, _, .nil, h => by simp at h
  | _, _, n, d, .cons (n := m) r t, h => by
    rw [List.lookup_cons] at h
    rw [List.lookup_cons]
    cases e : n == m with
    | true => rw [e] at h; simp at h; exact ⟨_, rfl, by rw [← h]; exact r⟩
    | false => rw [e] at h; exact FReps.lookup t h

/-- how G (what stands for ever) and H (all) grow -/
structure Nxt (G H G' H' : Hp) : Prop where
  g : Ex G G'
  h : Ex2 H H'
  gh : Ex G' H'
  fr : ∀ p, G' p ≠ none → G p ≠ none ∨ H p = none
theorem Nxt.refl (gh : Ex G H) : Nxt G H G H := ⟨Ex.refl _, Ex2.refl _, gh, fun _ h => .inl h⟩
theorem Nxt.trans {G1 H1 G2 H2 : Hp} (a : Nxt G H G1 H1) (b : Nxt G1 H1 G2 H2) : Nxt G H G2 H2 :=
  ⟨a.g.trans b.g, a.h.trans b.h, b.gh, fun p h => by
    rcases b.fr p h with h | h
    · exact a.fr p h
    · exact .inr (a.h.back h)⟩
theorem Nxt.new {p : Addr} {o : HO} (gh : Ex G H) (hp : H p = none) : Nxt G H (upd G p o) (upd H p o) :=
  ⟨Ex.new (fresh_back gh hp), Ex2.new hp, fun a u h => by
    by_cases e : a = p
    · subst e; rw [upd_same] at h ⊢; exact h
    · rw [upd_ne e] at h ⊢; exact gh a u h, fun a h => by
    by_cases e : a = p
    · subst e; exact .inr hp
    · rw [upd_ne e] at h; exact .inl h⟩
/-- laid in H alone -/
theorem Nxt.lay {p : Addr} {o : HO} (gh : Ex G H) (hp : H p = none) : Nxt G H G (upd H p o) :=
  ⟨Ex.refl _, Ex2.new hp, gh.trans (Ex.new hp), fun _ h => .inl h⟩
/-- what H has and G has not is frozen -/
theorem Nxt.fz {G0 H0 : Hp} {p : Addr} {o : HO} (n : Nxt G0 H0 G H) (hp : H p = some o) (h0 : H0 p = none) (hg : G p = none) : Nxt G0 H0 (upd G p o) H :=
  ⟨n.g.trans (Ex.new hg), n.h, fun a u h => by
    by_cases e : a = p
    · subst e; rw [upd_same] at h; rw [hp]; exact h
    · rw [upd_ne e] at h; exact n.gh a u h, fun a h => by
    by_cases e : a = p
    · subst e; exact .inr h0
    · rw [upd_ne e] at h; exact n.fr a h⟩
/-- a cell of H's own is changed -/
theorem Nxt.mut {G0 H0 : Hp} {p : Addr} {o : HO} (n : Nxt G0 H0 G H) (h0 : H0 p = none) (hg : G p = none) : Nxt G0 H0 G (upd H p o) :=
  ⟨n.g, Ex2.mut n.h h0, Ex.mut n.gh hg, n.fr⟩

/-! ### what is owned: cells that may yet be changed -/
inductive Sh where | v | l (e : Sh) | i (p : Addr) | j (p : Option Addr) (f : Str → Sh) | t (f : Nat → Sh) | d
mutual
/-- owned at any depth: the lists; its tuples stand for ever -/
inductive OwnD (G H : Hp) : V → D → List Addr → Prop
  | non : OwnD G H .non .non []
  | bl {b : Bool} : OwnD G H (.bl b) (.bl b) []
  | int {i : Int} : OwnD G H (.int i) (.int i) []
  | str {x : Str} : OwnD G H (.str x) (.str x) []
  | lst {p : Addr} {vs : List V} {ds : List D} {A : List Addr} : H p = some (.lst vs) → OwnDs G H vs ds A → OwnD G H (.ref p) (.lst ds) (p :: A)
  | tup {p : Addr} {vs : List V} {ds : List D} {A : List Addr} : G p = some (.tup vs) → OwnDs G H vs ds A → OwnD G H (.ref p) (.tup ds) A
inductive OwnDs (G H : Hp) : List V → List D → List Addr → Prop
  | nil : OwnDs G H [] [] []
  | cons {v : V} {d : D} {A : List Addr} {vs : List V} {ds : List D} {As : List Addr} : OwnD G H v d A → OwnDs G H vs ds As → OwnDs G H (v :: vs) (d :: ds) (A ++ As)
end
inductive OwnT (R : Nat → V → D → List Addr → Prop) : Nat → List V → List D → List Addr → Prop
  | nil {n} : OwnT R n [] [] []
  | cons {n v d A vs ds As} : R n v d A → OwnT R (n + 1) vs ds As → OwnT R n (v :: vs) (d :: ds) (A ++ As)
inductive OwnF (R : Str → V → D → List Addr → Prop) : List (Str × V) → List (Str × D) → List Addr → Prop
  | nil : OwnF R [] [] []
  | cons {n v d A vs ds As} : R n v d A → OwnF R vs ds As → OwnF R ((n, v) :: vs) ((n, d) :: ds) (A ++ As)
inductive OwnL (R : V → D → List Addr → Prop) : List V → List D → List Addr → Prop
  | nil : OwnL R [] [] []
  | cons {v d A vs ds As} : R v d A → OwnL R vs ds As → OwnL R (v :: vs) (d :: ds) (A ++ As)
noncomputable def Own (K : PySem.W.Frag) (cl : Cl) (G H : Hp) : Sh → V → D → List Addr → Prop
  | .v => fun v d A => A = [] ∧ Rep K cl G v d
  | .l e => fun v d A => ∃ p vs ds A', v = .ref p ∧ d = .lst ds ∧ H p = some (.lst vs) ∧ A = p :: A' ∧ OwnL (Own K cl G H e) vs ds A'
  | .i p => fun v d A => ∃ dx c fs ds, v = .ref p ∧ d = .ob c ds ∧ H p = some (.ins (cl.c c) dx fs) ∧ A = [p] ∧ FReps K cl G fs ds
  | .j po f => fun v d A => ∃ p dx c fs ds A', v = .ref p ∧ (∀ q, po = some q → q = p) ∧ d = .ob c ds ∧ H p = some (.ins (cl.c c) dx fs) ∧ A = p :: A' ∧ OwnF (fun n => Own K cl G H (f n)) fs ds A'
  | .t f => fun v d A => ∃ p vs ds, v = .ref p ∧ d = .tup ds ∧ G p = some (.tup vs) ∧ OwnT (fun n => Own K cl G H (f n)) 0 vs ds A
  | .d => fun v d A => OwnD G H v d A
mutual
theorem OwnD.step {G G' H H' : Hp} (e : Ex G G') : ∀ {v d A}, (∀ p ∈ A, ∀ (u : HO) [NT u], H p = some u → H' p = some u) → OwnD G H v d A → OwnD G' H' v d A
  | _, _, _, _, .non => .non
  | _, _, _, _, .bl => .bl
  | _, _, _, _, .int => .int
  | _, _, _, _, .str => .str
  | _, _, _, k, .lst h r => .lst (k _ List.mem_cons_self _ h) (OwnDs.step e (fun p hp => k p (List.mem_cons_of_mem _ hp)) r)
  | _, _, _, k, .tup h r => .tup (e _ _ h) (OwnDs.step e k r)
theorem OwnDs.step {G G' H H' : Hp} (e : Ex G G') : ∀ {v d A}, (∀ p ∈ A, ∀ (u : HO) [NT u], H p = some u → H' p = some u) → OwnDs G H v d A → OwnDs G' H' v d A
  | _, _, _, _, .nil => .nil
  | _, _, _, k, .cons h r => .cons (OwnD.step e (fun p hp => k p (List.mem_append_left _ hp)) h) (OwnDs.step e (fun p hp => k p (List.mem_append_right _ hp)) r)
end
mutual
theorem OwnD.inL {G H : Hp} : ∀ {v d A}, OwnD G H v d A → ∀ p ∈ A, ∃ ws, H p = some (.lst ws)
  | _, _, _, .non, _, z => nomatch z
  | _, _, _, .bl, _, z => nomatch z
  | _, _, _, .int, _, z => nomatch z
  | _, _, _, .str, _, z => nomatch z
  | _, _, _, .lst h r, p, z => (List.mem_cons.mp z).elim (fun e => by rw [e]; exact ⟨_, h⟩) (OwnDs.inL r p)
  | _, _, _, .tup h r, p, z => OwnDs.inL r p z
theorem OwnDs.inL {G H : Hp} : ∀ {v d A}, OwnDs G H v d A → ∀ p ∈ A, ∃ ws, H p = some (.lst ws)
  | _, _, _, .nil, _, z => nomatch z
  | _, _, _, .cons h r, p, z => (List.mem_append.mp z).elim (OwnD.inL h p) (OwnDs.inL r p)
end
theorem OwnT.imp {R R' : Nat → V → D → List Addr → Prop} : ∀ {n vs ds A}, OwnT R n vs ds A → (∀ n v d A', A' ⊆ A → R n v d A' → R' n v d A') → OwnT R' n vs ds A
  | _, _, _, _, .nil, _ => .nil
  | _, _, _, _, .cons r t, h => .cons (h _ _ _ _ (List.subset_append_left _ _) r) (OwnT.imp t fun n v d A' s q => h n v d A' (fun _ hx => List.mem_append_right _ (s hx)) q)
theorem OwnT.len {R : Nat → V → D → List Addr → Prop} : ∀ {n vs ds A}, OwnT R n vs ds A → vs.length = ds.length
  | _, _, _, _, .nil => rfl
  | _, _, _, _, .cons _ t => congrArg (· + 1) t.len
theorem OwnT.inH {R : Nat → V → D → List Addr → Prop} {P : Addr → Prop} : ∀ {n vs ds A}, OwnT R n vs ds A → (∀ n v d A', R n v d A' → ∀ p ∈ A', P p) → ∀ p ∈ A, P p
  | _, _, _, _, .nil, _, p, hp => nomatch hp
  | _, _, _, _, .cons r t, h, p, hp => (List.mem_append.mp hp).elim (h _ _ _ _ r p) (OwnT.inH t h p)
theorem OwnT.reps {R : Nat → V → D → List Addr → Prop} {G' : Hp} : ∀ {n vs ds A}, OwnT R n vs ds A → (∀ n v d A', A' ⊆ A → R n v d A' → Rep K cl G' v d) → Reps K cl G' vs ds
  | _, _, _, _, .nil, _ => .nil
  | _, _, _, _, .cons r t, h => .cons (h _ _ _ _ (List.subset_append_left _ _) r) (OwnT.reps t fun n v d A' s q => h n v d A' (fun _ hx => List.mem_append_right _ (s hx)) q)
theorem OwnF.imp {R R' : Str → V → D → List Addr → Prop} : ∀ {vs ds A}, OwnF R vs ds A → (∀ n v d A', A' ⊆ A → R n v d A' → R' n v d A') → OwnF R' vs ds A
  | _, _, _, .nil, _ => .nil
  | _, _, _, .cons r t, h => .cons (h _ _ _ _ (List.subset_append_left _ _) r) (OwnF.imp t fun n v d A' s q => h n v d A' (fun _ hx => List.mem_append_right _ (s hx)) q)
theorem OwnF.len {R : Str → V → D → List Addr → Prop} : ∀ {vs ds A}, OwnF R vs ds A → vs.length = ds.length
  | _, _, _, .nil => rfl
  | _, _, _, .cons _ t => congrArg (· + 1) t.len
theorem OwnF.inH {R : Str → V → D → List Addr → Prop} {P : Addr → Prop} : ∀ {vs ds A}, OwnF R vs ds A → (∀ n v d A', R n v d A' → ∀ p ∈ A', P p) → ∀ p ∈ A, P p
  | _, _, _, .nil, _, p, hp => nomatch hp
  | _, _, _, .cons r t, h, p, hp => (List.mem_append.mp hp).elim (h _ _ _ _ r p) (OwnF.inH t h p)
theorem OwnF.reps {R : Str → V → D → List Addr → Prop} {G' : Hp} : ∀ {vs ds A}, OwnF R vs ds A → (∀ n v d A', A' ⊆ A → R n v d A' → Rep K cl G' v d) → FReps K cl G' vs ds
  | _, _, _, .nil, _ => .nil
  | _, _, _, .cons r t, h => .cons (h _ _ _ _ (List.subset_append_left _ _) r) (OwnF.reps t fun n v d A' s q => h n v d A' (fun _ hx => List.mem_append_right _ (s hx)) q)
theorem OwnL.imp {R R' : V → D → List Addr → Prop} : ∀ {vs ds A}, OwnL R vs ds A → (∀ v d A', A' ⊆ A → R v d A' → R' v d A') → OwnL R' vs ds A
  | _, _, _, .nil, _ => .nil
  | _, _, _, .cons r t, h => .cons (h _ _ _ (List.subset_append_left _ _) r) (OwnL.imp t fun v d A' s q => h v d A' (fun _ hx => List.mem_append_right _ (s hx)) q)
theorem OwnL.len {R : V → D → List Addr → Prop} : ∀ {vs ds A}, OwnL R vs ds A → vs.length = ds.length
  | _, _, _, .nil => rfl
  | _, _, _, .cons _ t => congrArg (· + 1) t.len
theorem Own.step {G G' H H' : Hp} (e : Ex G G') : ∀ {sh v d A}, (∀ p ∈ A, ∀ (u : HO) [NT u], H p = some u → H' p = some u) → Own K cl G H sh v d A → Own K cl G' H' sh v d A
  | .v, _, _, _, _, h => ⟨h.1, h.2.mono e⟩
  | .l s, _, _, _, k, ⟨p, vs, ds, A', h1, h2, h3, h4, h5⟩ => ⟨p, vs, ds, A', h1, h2, k p (by rw [h4]; exact List.mem_cons_self) _ h3, h4, h5.imp fun v d A2 s q => Own.step e (fun p hp => k p (by rw [h4]; exact List.mem_cons_of_mem _ (s hp))) q⟩
  | .i p, _, _, _, k, ⟨dx, c, fs, ds, h1, h2, h3, h4, h5⟩ => ⟨dx, c, fs, ds, h1, h2, k p (by rw [h4]; exact List.mem_cons_self) _ h3, h4, h5.mono e⟩
  | .j po f, _, _, _, k, ⟨p, dx, c, fs, ds, A', h1, hp, h2, h3, h4, h5⟩ => ⟨p, dx, c, fs, ds, A', h1, hp, h2, k p (by rw [h4]; exact List.mem_cons_self) _ h3, h4, h5.imp fun n v d A2 s q => Own.step (sh := f n) e (fun p hp => k p (by rw [h4]; exact List.mem_cons_of_mem _ (s hp))) q⟩
  | .t f, _, _, _, k, ⟨p, vs, ds, h1, h2, h3, h5⟩ => ⟨p, vs, ds, h1, h2, e _ _ h3, h5.imp fun n v d A2 s q => Own.step (sh := f n) e (fun p hp => k p (s hp)) q⟩
  | .d, _, _, _, k, h => OwnD.step e k h
mutual
theorem OwnD.rep {G G' H : Hp} (e : Ex G G') : ∀ {v d A}, (∀ p ∈ A, G' p = H p) → OwnD G H v d A → Rep K cl G' v d
  | _, _, _, _, .non => .non
  | _, _, _, _, .bl => .bl
  | _, _, _, _, .int => .int
  | _, _, _, _, .str => .str
  | _, _, _, k, .lst h r => .lst ((k _ List.mem_cons_self).trans h) (OwnDs.rep e (fun p hp => k p (List.mem_cons_of_mem _ hp)) r)
  | _, _, _, k, .tup h r => .tup (st_of (e _ _ h)) (OwnDs.rep e k r)
theorem OwnDs.rep {G G' H : Hp} (e : Ex G G') : ∀ {v d A}, (∀ p ∈ A, G' p = H p) → OwnDs G H v d A → Reps K cl G' v d
  | _, _, _, _, .nil => .nil
  | _, _, _, k, .cons h r => .cons (OwnD.rep e (fun p hp => k p (List.mem_append_left _ hp)) h) (OwnDs.rep e (fun p hp => k p (List.mem_append_right _ hp)) r)
end
theorem OwnL.reps {R : V → D → List Addr → Prop} {G' : Hp} : ∀ {vs ds A}, OwnL R vs ds A → (∀ v d A', A' ⊆ A → R v d A' → Rep K cl G' v d) → Reps K cl G' vs ds
  | _, _, _, .nil, _ => .nil
  | _, _, _, .cons r t, h => .cons (h _ _ _ (List.subset_append_left _ _) r) (OwnL.reps t fun v d A' s q => h v d A' (fun _ hx => List.mem_append_right _ (s hx)) q)
theorem Own.rep {G G' H : Hp} (e : Ex G G') : ∀ {sh v d A}, (∀ p ∈ A, G' p = H p) → Own K cl G H sh v d A → Rep K cl G' v d
  | .v, _, _, _, _, h => h.2.mono e
  | .l s, _, _, _, k, ⟨p, vs, ds, A', h1, h2, h3, h4, h5⟩ => by
    subst h1; subst h2
    exact .lst ((k p (by rw [h4]; exact List.mem_cons_self)).trans h3) (h5.reps fun v d A2 s q => Own.rep e (fun p hp => k p (by rw [h4]; exact List.mem_cons_of_mem _ (s hp))) q)
  | .i p, _, _, _, k, ⟨dx, c, fs, ds, h1, h2, h3, h4, h5⟩ => by
    subst h1; subst h2
    exact .ob ((k p (by rw [h4]; exact List.mem_cons_self)).trans h3) (h5.mono e)
  | .j po f, _, _, _, k, ⟨p, dx, c, fs, ds, A', h1, hp, h2, h3, h4, h5⟩ => by
    subst h1; subst h2
    exact .ob ((k p (by rw [h4]; exact List.mem_cons_self)).trans h3) (h5.reps fun n v d A2 s q => Own.rep (sh := f n) e (fun p hp => k p (by rw [h4]; exact List.mem_cons_of_mem _ (s hp))) q)
  | .t f, _, _, _, k, ⟨p, vs, ds, h1, h2, h3, h5⟩ => by
    subst h1; subst h2
    exact .tup (st_of (e _ _ h3)) (h5.reps fun n v d A2 s q => Own.rep (sh := f n) e (fun p hp => k p (s hp)) q)
  | .d, _, _, _, k, h => OwnD.rep e k h
theorem OwnL.inH {R : V → D → List Addr → Prop} {P : Addr → Prop} : ∀ {vs ds A}, OwnL R vs ds A → (∀ v d A', R v d A' → ∀ p ∈ A', P p) → ∀ p ∈ A, P p
  | _, _, _, .nil, _, p, hp => nomatch hp
  | _, _, _, .cons r t, h, p, hp => (List.mem_append.mp hp).elim (h _ _ _ r p) (OwnL.inH t h p)
theorem Own.inN {G H : Hp} : ∀ {sh v d A}, Own K cl G H sh v d A → ∀ p ∈ A, ∃ u, H p = some u ∧ NT u
  | .v, _, _, _, h, p, hp => by rw [h.1] at hp; cases hp
  | .l s, _, _, _, ⟨p, vs, ds, A', h1, h2, h3, h4, h5⟩, q, hq => by
    rw [h4] at hq
    rcases List.mem_cons.mp hq with z | z
    · rw [z, h3]; exact ⟨_, rfl, inferInstance⟩
    · exact h5.inH (fun v d A2 r => Own.inN r) q z
  | .i p, _, _, _, ⟨dx, c, fs, ds, h1, h2, h3, h4, h5⟩, q, hq => by
    rw [h4] at hq
    rw [List.mem_singleton.mp hq, h3]; exact ⟨_, rfl, inferInstance⟩
  | .j po f, _, _, _, ⟨p, dx, c, fs, ds, A', h1, hp, h2, h3, h4, h5⟩, q, hq => by
    rw [h4] at hq
    rcases List.mem_cons.mp hq with z | z
    · rw [z, h3]; exact ⟨_, rfl, inferInstance⟩
    · exact h5.inH (fun n v d A2 r => Own.inN (sh := f n) r) q z
  | .t f, _, _, _, ⟨p, vs, ds, h1, h2, h3, h5⟩, q, hq => h5.inH (fun n v d A2 r => Own.inN (sh := f n) r) q hq
  | .d, _, _, _, h, q, hq => by obtain ⟨ws, e⟩ := OwnD.inL h q hq; exact ⟨_, e, inferInstance⟩
theorem Own.inH {G H : Hp} {sh : Sh} {v : V} {d : D} {A : List Addr} (h : Own K cl G H sh v d A) : ∀ p ∈ A, H p ≠ none := fun p hp z => by
  obtain ⟨u, e, _⟩ := h.inN p hp
  rw [z] at e; cases e
theorem Own.noT {G H : Hp} {sh : Sh} {v : V} {d : D} {A : List Addr} (h : Own K cl G H sh v d A) {a : Addr} (t : GxR.TabG H a) : a ∉ A := fun ha => by
  obtain ⟨u, e, n⟩ := h.inN a ha
  obtain ⟨ps, e2, _⟩ := t
  rw [e] at e2; cases e2
  exact n.nt _ rfl
theorem ownL_v {G H : Hp} : ∀ {vs ds A}, OwnL (Own K cl G H .v) vs ds A → A = [] ∧ Reps K cl G vs ds
  | _, _, _, .nil => ⟨rfl, .nil⟩
  | _, _, _, .cons r t => ⟨by rw [r.1, (ownL_v t).1]; rfl, .cons r.2 (ownL_v t).2⟩
theorem ownL_of {G H : Hp} : ∀ {vs ds}, Reps K cl G vs ds → OwnL (Own K cl G H .v) vs ds []
  | _, _, .nil => .nil
  | _, _, .cons r t => OwnL.cons (A := []) ⟨rfl, r⟩ (ownL_of t)
/-- an owned flat list -/
theorem Own.flat {G H : Hp} {v : V} {d : D} {A : List Addr} (h : Own K cl G H (.l .v) v d A) : ∃ p vs ds, v = .ref p ∧ d = .lst ds ∧ H p = some (.lst vs) ∧ A = [p] ∧ Reps K cl G vs ds := by
  obtain ⟨p, vs, ds, A', h1, h2, h3, h4, h5⟩ := h
  obtain ⟨rfl, r⟩ := ownL_v h5
  exact ⟨p, vs, ds, h1, h2, h3, h4, r⟩
theorem Own.mkFlat {G H : Hp} {p : Addr} {vs : List V} {ds : List D} (hp : H p = some (.lst vs)) (r : Reps K cl G vs ds) : Own K cl G H (.l .v) (.ref p) (.lst ds) [p] := ⟨p, vs, ds, [], rfl, rfl, hp, rfl, ownL_of r⟩

/-! ### the slots -/
inductive Sl where
  | jk | vl (d : D) | ow (sh : Sh) (d : D)
structure Bs where
  G : Hp
  H : Hp
noncomputable def SlotOk (K : PySem.W.Frag) (cl : Cl) (B : Bs) (G H : Hp) : Sl → Option V → List Addr → Prop
  | .jk, _, A => A = []
  | .vl d, o, A => A = [] ∧ ∃ v, o = some v ∧ Rep K cl G v d
  | .ow sh d, o, A => ∃ v, o = some v ∧ Own K cl G H sh v d A ∧ A.Nodup ∧ ∀ p ∈ A, G p = none ∧ B.H p = none
noncomputable def atA (A : Nat → List Addr) (i : Nat) (X : List Addr) : Nat → List Addr := fun j => if j = i then X else A j
theorem atA_e {A : Nat → List Addr} {i j : Nat} {X : List Addr} (h : j = i) : atA A i X j = X := if_pos h
theorem atA_n {A : Nat → List Addr} {i j : Nat} {X : List Addr} (h : ¬ j = i) : atA A i X j = A j := if_neg h
structure Sig (K : PySem.W.Frag) (cl : Cl) (B : Bs) (G H : Hp) (S : List Sl) (σ : L2.St) : Prop where
  nxt : Nxt B.G B.H G H
  len : σ.length = S.length
  tab : ∀ a ∈ cl.t, GxR.TabG H a ∧ G a = Option.none
  slots : ∃ A : Nat → List Addr, (∀ (i : Nat) (s : Sl), S[i]? = some s → ∃ o, σ[i]? = some o ∧ SlotOk K cl B G H s o (A i)) ∧ ∀ i j, i ≠ j → i < S.length → j < S.length → ∀ p ∈ A i, p ∉ A j
variable {B : Bs} {S : List Sl} {σ : L2.St}
theorem Nxt.tab {a : Addr} (n : Nxt G H G' H') (h : GxR.TabG H a ∧ G a = Option.none) : GxR.TabG H' a ∧ G' a = Option.none := by
  obtain ⟨⟨ps, e, ok⟩, hg⟩ := h
  obtain ⟨ps', e', ok'⟩ := n.h.b a ps e
  refine ⟨⟨ps', e', ok' ok⟩, ?_⟩
  cases q : G' a with
  | none => rfl
  | some u =>
    rcases n.fr a (by rw [q]; simp) with z | z
    · exact absurd hg z
    · rw [e] at z; cases z
theorem SlotOk.step {s : Sl} {o : Option V} {A : List Addr} (gh : Ex G H) (n : Nxt G H G' H') (h : SlotOk K cl B G H s o A) : SlotOk K cl B G' H' s o A := by
  cases s with
  | jk => exact h
  | vl d =>
    obtain ⟨ea, v, e, r⟩ := h
    exact ⟨ea, v, e, r.mono n.g⟩
  | ow sh d =>
    obtain ⟨v, e, ow, nd, out⟩ := h
    refine ⟨v, e, ow.step n.g (fun p _ u _ hu => n.h _ _ hu), nd, fun p hp => ⟨?_, (out p hp).2⟩⟩
    cases q : G' p with
    | none => rfl
    | some u =>
      rcases n.fr p (by rw [q]; simp) with h | h
      · exact absurd (out p hp).1 h
      · exact absurd h (ow.inH p hp)
theorem Sig.step (I : Sig K cl B G H S σ) (n : Nxt G H G' H') : Sig K cl B G' H' S σ := by
  obtain ⟨A, h, ap⟩ := I.slots
  exact ⟨I.nxt.trans n, I.len, fun a ha => n.tab (I.tab a ha), A, fun i s hs => by
    obtain ⟨o, h1, h2⟩ := h i s hs
    exact ⟨o, h1, h2.step I.nxt.gh n⟩, ap⟩
theorem Sig.vl (I : Sig K cl B G H S σ) {i : Nat} {d : D} (h : S[i]? = some (.vl d)) : ∃ v, σ[i]? = some (some v) ∧ Rep K cl G v d := by
  obtain ⟨A, hs, _⟩ := I.slots
  obtain ⟨o, h1, _, v, rfl, r⟩ := hs i _ h
  exact ⟨v, h1, r⟩
/-- an owned thing, opened: what is changed of it leaves the rest as it is -/
theorem Sig.opn (I : Sig K cl B G H S σ) {i : Nat} {sh : Sh} {d : D} (h : S[i]? = some (.ow sh d)) :
    ∃ v A, σ[i]? = some (some v) ∧ Own K cl G H sh v d A ∧ A.Nodup ∧ (∀ p ∈ A, G p = none ∧ B.H p = none) ∧
      ∀ (H' : Hp) (d' : D), (∀ p, p ∉ A → H' p = H p) → Own K cl G H' sh v d' A → Sig K cl B G H' (S.set i (.ow sh d')) σ := by
  obtain ⟨A, hs, ap⟩ := I.slots
  obtain ⟨o, h1, v, rfl, ow, nd, out⟩ := hs i _ h
  have hl : i < S.length := (List.getElem?_eq_some_iff.mp h).1
  refine ⟨v, A i, h1, ow, nd, out, fun H' d' hk ow' => ⟨⟨I.nxt.g, ⟨fun a u _ e => ?_, fun a ps e => ?_⟩, fun a u e => ?_, I.nxt.fr⟩, by rw [List.length_set]; exact I.len, fun a ha => ?_, A, fun j s hj => ?_, fun j k n hj hk => ap j k n (by rwa [List.length_set] at hj) (by rwa [List.length_set] at hk)⟩⟩
  · rw [hk a fun z => by rw [(out a z).2] at e; cases e]; exact I.nxt.h a u e
  · rw [hk a fun z => by rw [(out a z).2] at e; cases e]; exact I.nxt.h.b a ps e
  · rw [hk a fun z => by rw [(out a z).1] at e; cases e]; exact I.nxt.gh a u e
  · obtain ⟨⟨ps, e, ok⟩, hg⟩ := I.tab a ha
    exact ⟨⟨ps, by rw [hk a (ow.noT ⟨ps, e, ok⟩)]; exact e, ok⟩, hg⟩
  · by_cases e : i = j
    · subst e
      rw [List.getElem?_set_self hl] at hj
      cases hj
      exact ⟨_, h1, v, rfl, ow', nd, out⟩
    · rw [List.getElem?_set_ne e] at hj
      have hlj : j < S.length := (List.getElem?_eq_some_iff.mp hj).1
      obtain ⟨o, h2, h3⟩ := hs j s hj
      refine ⟨o, h2, ?_⟩
      cases s with
      | jk => exact h3
      | vl d' => exact h3
      | ow sh' d' =>
        obtain ⟨v', e1, ow2, nd', out'⟩ := h3
        exact ⟨v', e1, ow2.step (Ex.refl _) (fun p hp u _ hu => by rw [hk p (ap j i (fun z => e z.symm) hlj hl p hp)]; exact hu), nd', out'⟩
theorem Sig.ow (I : Sig K cl B G H S σ) {i : Nat} {d : D} (h : S[i]? = some (.ow (.l .v) d)) :
    ∃ p vs xs, σ[i]? = some (some (.ref p)) ∧ d = .lst xs ∧ H p = some (.lst vs) ∧ G p = Option.none ∧ B.H p = Option.none ∧ Reps K cl G vs xs := by
  obtain ⟨v, A, h1, ow, nd, out, _⟩ := I.opn h
  obtain ⟨p, vs, xs, rfl, e, hp, rfl, r⟩ := ow.flat
  have := out p List.mem_cons_self
  exact ⟨p, vs, xs, h1, e, hp, this.1, this.2, r⟩
/-- a slot gets a value -/
theorem Sig.setV (I : Sig K cl B G H S σ) {i : Nat} {v : V} {d : D} (r : Rep K cl G v d) : Sig K cl B G H (S.set i (.vl d)) (σ.set i (some v)) := by
  obtain ⟨A, hs, ap⟩ := I.slots
  refine ⟨I.nxt, by rw [List.length_set, List.length_set, I.len], I.tab, atA A i ([]), fun j s h => ?_, fun j k n hj hk p hp => ?_⟩
  · by_cases e : i = j
    · subst e
      have hl : i < S.length := by have := (List.getElem?_eq_some_iff.mp h).1; rwa [List.length_set] at this
      rw [List.getElem?_set_self hl] at h
      cases h
      exact ⟨some v, by rw [List.getElem?_set_self (by rw [I.len]; exact hl)], atA_e rfl, v, rfl, r⟩
    · rw [List.getElem?_set_ne e] at h
      obtain ⟨o, h1, h2⟩ := hs j s h
      exact ⟨o, by rw [List.getElem?_set_ne e]; exact h1, by rw [atA_n (fun z => e z.symm)]; exact h2⟩
  · rw [List.length_set] at hj hk
    by_cases ej : j = i
    · rw [atA_e ej] at hp; cases hp
    · rw [atA_n ej] at hp
      by_cases ek : k = i
      · rw [atA_e ek]; exact fun z => nomatch z
      · rw [atA_n ek]; exact ap j k n hj hk p hp
/-- a slot gets what the last slot, laid behind, holds -/
theorem Sig.take {sh : Sh} {d : D} {v : V} (I : Sig K cl B G H (S ++ [.ow sh d]) (σ ++ [some v])) (i : Nat) : Sig K cl B G H (S.set i (.ow sh d)) (σ.set i (some v)) := by
  obtain ⟨A, hs, ap⟩ := I.slots
  have hlen : σ.length = S.length := by have := I.len; rw [List.length_append, List.length_append] at this; exact Nat.add_right_cancel this
  have hS : ∀ j, j < S.length → (S ++ [.ow sh d])[j]? = S[j]? := fun j hj => List.getElem?_append_left hj
  have hσ : ∀ j, j < S.length → (σ ++ [some v])[j]? = σ[j]? := fun j hj => List.getElem?_append_left (by rw [hlen]; exact hj)
  refine ⟨I.nxt, by rw [List.length_set, List.length_set, hlen], I.tab, atA A i (A S.length), fun j s h => ?_, fun j k n hj hk p hp => ?_⟩
  · have hl : j < S.length := by have := (List.getElem?_eq_some_iff.mp h).1; rwa [List.length_set] at this
    by_cases e : i = j
    · subst e
      rw [List.getElem?_set_self hl] at h
      cases h
      obtain ⟨o, h1, h2⟩ := hs S.length (.ow sh d) (by rw [List.getElem?_append_right (Nat.le_refl _), Nat.sub_self]; rfl)
      rw [List.getElem?_append_right (by rw [hlen]; exact Nat.le_refl _), hlen, Nat.sub_self] at h1
      cases h1
      exact ⟨some v, by rw [List.getElem?_set_self (by rw [hlen]; exact hl)], by rw [atA_e rfl]; exact h2⟩
    · rw [List.getElem?_set_ne e] at h
      obtain ⟨o, h1, h2⟩ := hs j s (by rw [hS j hl]; exact h)
      rw [hσ j hl] at h1
      exact ⟨o, by rw [List.getElem?_set_ne e]; exact h1, by rw [atA_n (fun z => e z.symm)]; exact h2⟩
  · rw [List.length_set] at hj hk
    have L : (S ++ [Sl.ow sh d]).length = S.length + 1 := by rw [List.length_append]; rfl
    by_cases ej : j = i
    · rw [atA_e ej] at hp
      by_cases ek : k = i
      · exact absurd (ej.trans ek.symm) n
      · rw [atA_n ek]; exact ap S.length k (by omega) (by omega) (by omega) p hp
    · rw [atA_n ej] at hp
      by_cases ek : k = i
      · rw [atA_e ek]; exact ap j S.length (by omega) (by omega) (by omega) p hp
      · rw [atA_n ek]; exact ap j k n (by omega) (by omega) p hp
/-- what is new and owned, laid behind -/
theorem Sig.push (I : Sig K cl B G H S σ) {sh : Sh} {v : V} {d : D} {A0 : List Addr} (n : Nxt G H G' H') (ow : Own K cl G' H' sh v d A0) (nd : A0.Nodup) (nw : ∀ p ∈ A0, H p = none ∧ G' p = none) : Sig K cl B G' H' (S ++ [.ow sh d]) (σ ++ [some v]) := by
  obtain ⟨A, hs, ap⟩ := I.slots
  have I' := I.step n
  have L : (S ++ [Sl.ow sh d]).length = S.length + 1 := by rw [List.length_append]; rfl
  refine ⟨I'.nxt, by rw [List.length_append, List.length_append, I.len]; rfl, I'.tab, atA A S.length (A0), fun j s h => ?_, fun j k nn hj hk p hp => ?_⟩
  · have hl : j < S.length + 1 := by have := (List.getElem?_eq_some_iff.mp h).1; rwa [L] at this
    by_cases e : j = S.length
    · subst e
      rw [List.getElem?_append_right (Nat.le_refl _), Nat.sub_self] at h
      cases h
      refine ⟨some v, by rw [List.getElem?_append_right (by rw [I.len]; exact Nat.le_refl _), I.len, Nat.sub_self]; rfl, ?_⟩
      rw [atA_e rfl]
      exact ⟨v, rfl, ow, nd, fun p hp => ⟨(nw p hp).2, I.nxt.h.back (nw p hp).1⟩⟩
    · have hj : j < S.length := by omega
      rw [List.getElem?_append_left hj] at h
      obtain ⟨o, h1, h2⟩ := hs j s h
      exact ⟨o, by rw [List.getElem?_append_left (by rw [I.len]; exact hj)]; exact h1, by rw [atA_n e]; exact h2.step I.nxt.gh n⟩
  · have inH : ∀ j, j < S.length → ∀ p ∈ A j, H p ≠ none := fun j hj p hp => by
      obtain ⟨o, h1, h2⟩ := hs j S[j] (List.getElem?_eq_getElem hj)
      generalize S[j] = s at h2
      cases s with
      | jk => rw [h2] at hp; cases hp
      | vl d' => rw [h2.1] at hp; cases hp
      | ow sh' d' => obtain ⟨v', _, ow', _⟩ := h2; exact ow'.inH p hp
    rw [L] at hj hk
    by_cases ej : j = S.length
    · rw [atA_e ej] at hp
      rw [atA_n (fun z => nn (ej.trans z.symm))]
      exact fun z => inH k (by omega) p z (nw p hp).1
    · rw [atA_n ej] at hp
      by_cases ek : k = S.length
      · rw [atA_e ek]; exact fun z => inH j (by omega) p hp (nw p z).1
      · rw [atA_n ek]; exact ap j k nn (by omega) (by omega) p hp
/-- an owned thing is given away: it stands for ever -/
theorem Sig.share (I : Sig K cl B G H S σ) {i : Nat} {sh : Sh} {d : D} (h : S[i]? = some (.ow sh d)) :
    ∃ v G', σ[i]? = some (some v) ∧ Ex G G' ∧ Rep K cl G' v d ∧ Sig K cl B G' H (S.set i (.vl d)) σ := by
  obtain ⟨A, hs, ap⟩ := I.slots
  obtain ⟨o, h1, v, rfl, ow, nd, out⟩ := hs i _ h
  have hl : i < S.length := (List.getElem?_eq_some_iff.mp h).1
  have eg : Ex G (fun b => if b ∈ A i then H b else G b) := fun a u e => by
    show (if a ∈ A i then H a else G a) = _
    rw [if_neg (fun z => by rw [(out a z).1] at e; cases e)]; exact e
  have rp : Rep K cl (fun b => if b ∈ A i then H b else G b) v d := ow.rep eg fun p hp => if_pos hp
  refine ⟨v, _, h1, eg, rp, ⟨I.nxt.g.trans eg, I.nxt.h, fun a u e => ?_, fun a e => ?_⟩, by rw [List.length_set]; exact I.len, fun a ha => ⟨(I.tab a ha).1, by show (if a ∈ A i then H a else G a) = none; rw [if_neg (ow.noT (I.tab a ha).1)]; exact (I.tab a ha).2⟩, atA A i ([]), fun j s hj => ?_, fun j k n hj hk p hp => ?_⟩
  · by_cases z : a ∈ A i
    · rw [if_pos z] at e; exact e
    · rw [if_neg z] at e; exact I.nxt.gh a u e
  · by_cases z : a ∈ A i
    · exact .inr (out a z).2
    · rw [if_neg z] at e; exact I.nxt.fr a e
  · by_cases e : i = j
    · subst e
      rw [List.getElem?_set_self hl] at hj
      cases hj
      exact ⟨_, h1, atA_e rfl, _, rfl, rp⟩
    · rw [List.getElem?_set_ne e] at hj
      have hlj : j < S.length := (List.getElem?_eq_some_iff.mp hj).1
      obtain ⟨o, h2, h3⟩ := hs j s hj
      refine ⟨o, h2, ?_⟩
      rw [atA_n (fun z => e z.symm)]
      cases s with
      | jk => exact h3
      | vl d' =>
        obtain ⟨ea, v, e1, r1⟩ := h3
        exact ⟨ea, v, e1, r1.mono eg⟩
      | ow sh' d' =>
        obtain ⟨v', e1, ow2, nd', out'⟩ := h3
        refine ⟨v', e1, ow2.step eg (fun p hp u _ hu => hu), nd', fun p hp => ⟨?_, (out' p hp).2⟩⟩
        show (if p ∈ A i then H p else G p) = none
        rw [if_neg (ap j i (fun z => e z.symm) hlj hl p hp)]
        exact (out' p hp).1
  · rw [List.length_set] at hj hk
    by_cases ej : j = i
    · rw [atA_e ej] at hp; cases hp
    · rw [atA_n ej] at hp
      by_cases ek : k = i
      · rw [atA_e ek]; exact fun z => nomatch z
      · rw [atA_n ek]; exact ap j k n hj hk p hp
/-- an owned flat list is changed in place -/
theorem Sig.mut (I : Sig K cl B G H S σ) {i : Nat} {d : D} {p : Addr} {vs : List V} {xs : List D} (h : S[i]? = some (.ow (.l .v) d)) (h1 : σ[i]? = some (some (.ref p))) (r : Reps K cl G vs xs) :
    Sig K cl B G (upd H p (.lst vs)) (S.set i (.ow (.l .v) (.lst xs))) σ := by
  obtain ⟨v, A, h2, ow, nd, out, cl'⟩ := I.opn h
  rw [h1] at h2; cases h2
  obtain ⟨p0, vs0, xs0, e0, e, hp, rfl, _⟩ := ow.flat
  cases e0
  exact cl' _ _ (fun q hq => upd_ne fun z => hq (by rw [z]; exact List.mem_cons_self)) (Own.mkFlat upd_same r)
/-- some slots are forgotten -/
inductive Weak : List Sl → List Sl → Prop
  | nil : Weak [] []
  | same {s S S'} : Weak S S' → Weak (s :: S) (s :: S')
  | drop {s S S'} : Weak S S' → Weak (s :: S) (.jk :: S')
theorem Weak.refl : ∀ S, Weak S S
  | [] => .nil
  | _ :: S => .same (Weak.refl S)
theorem Weak.get : ∀ {S S' : List Sl} {i : Nat} {s : Sl}, Weak S S' → S'[i]? = some s → s = .jk ∨ S[i]? = some s
  | _, _, _, _, .nil, h => by simp at h
  | _, _, 0, _, .same _, h => .inr (by simpa using h)
  | _, _, 0, _, .drop _, h => .inl (by simp at h; exact h.symm)
  | _, _, i + 1, _, .same w, h => by
    have := Weak.get (i := i) w (by simpa using h)
    simpa using this
  | _, _, i + 1, _, .drop w, h => by
    have := Weak.get (i := i) w (by simpa using h)
    simpa using this
theorem Weak.len : ∀ {S S' : List Sl}, Weak S S' → S'.length = S.length
  | _, _, .nil => rfl
  | _, _, .same w => congrArg (· + 1) w.len
  | _, _, .drop w => congrArg (· + 1) w.len
theorem Sig.sub {S' : List Sl} (I : Sig K cl B G H S σ) (hl : S'.length = S.length) (hg : ∀ (i : Nat) (s : Sl), S'[i]? = some s → s = .jk ∨ S[i]? = some s) : Sig K cl B G H S' σ := by
  obtain ⟨A, hs, ap⟩ := I.slots
  refine ⟨I.nxt, I.len.trans hl.symm, I.tab, fun j => match S'[j]? with | some .jk => [] | _ => A j, fun i s h => ?_, fun j k n hj hk p hp => ?_⟩
  · show ∃ o, _ ∧ SlotOk K cl B G H s o (match S'[i]? with | some .jk => [] | _ => A i)
    rw [h]
    have hl' : i < σ.length := by rw [I.len, ← hl]; exact (List.getElem?_eq_some_iff.mp h).1
    cases s with
    | jk => exact ⟨σ[i], List.getElem?_eq_getElem hl', rfl⟩
    | vl d =>
      rcases hg i _ h with z | z
      · cases z
      · exact hs i _ z
    | ow sh d =>
      rcases hg i _ h with z | z
      · cases z
      · exact hs i _ z
  · have sub : ∀ j, (match S'[j]? with | some .jk => [] | _ => A j) ⊆ A j := fun j => by
      split
      · exact fun _ z => nomatch z
      · exact fun _ z => z
    exact fun z => ap j k n (by rw [← hl]; exact hj) (by rw [← hl]; exact hk) p (sub j hp) (sub k z)
theorem Sig.weak {S' : List Sl} (I : Sig K cl B G H S σ) (w : Weak S S') : Sig K cl B G H S' σ := I.sub w.len fun _ _ h => w.get h
/-- a slot gets anything -/
theorem Sig.any (I : Sig K cl B G H S σ) (i : Nat) (o : Option V) : Sig K cl B G H (S.set i .jk) (σ.set i o) := by
  obtain ⟨A, hs, ap⟩ := I.slots
  refine ⟨I.nxt, by rw [List.length_set, List.length_set, I.len], I.tab, atA A i ([]), fun j s h => ?_, fun j k n hj hk p hp => ?_⟩
  · by_cases e : i = j
    · subst e
      have hl : i < S.length := by have := (List.getElem?_eq_some_iff.mp h).1; rwa [List.length_set] at this
      rw [List.getElem?_set_self hl] at h
      cases h
      exact ⟨o, by rw [List.getElem?_set_self (by rw [I.len]; exact hl)], atA_e rfl⟩
    · rw [List.getElem?_set_ne e] at h
      obtain ⟨o, h1, h2⟩ := hs j s h
      exact ⟨o, by rw [List.getElem?_set_ne e]; exact h1, by rw [atA_n (fun z => e z.symm)]; exact h2⟩
  · rw [List.length_set] at hj hk
    by_cases ej : j = i
    · rw [atA_e ej] at hp; cases hp
    · rw [atA_n ej] at hp
      by_cases ek : k = i
      · rw [atA_e ek]; exact fun z => nomatch z
      · rw [atA_n ek]; exact ap j k n hj hk p hp
end
end Oh
namespace Oh
open PySem PySem.Spec PyProof.Rows L2 Evl

/-! ### plain functions on data -/
noncomputable def asB : D → Option Bool | .bl b => some b | _ => none
noncomputable def asI : D → Option Int | .int i => some i | _ => none
noncomputable def asS : D → Option Str | .str i => some i | _ => none
noncomputable def asL : D → Option (List D) | .lst xs => some xs | .rol xs => some xs | _ => none
noncomputable def asT : D → Option (List D) | .tup xs => some xs | _ => none
noncomputable def dAdd : D → D → Option D
  | .int a, .int b => some (.int (a + b))
  | .str a, .str b => if a.length + b.length ≤ 100000 then some (.str (a ++ b)) else none
  | _, _ => none
noncomputable def dCat : D → D → Option D
  | .lst a, .lst b => if a.length + b.length ≤ 100000 then some (.lst (a ++ b)) else none
  | _, _ => none
noncomputable def dSub : D → D → Option D
  | .int a, .int b => some (.int (a - b))
  | _, _ => none
/-- a product that the machine reckons: one factor small, or both not too long -/
noncomputable abbrev MulOk (a b : Int) : Prop := ((-(2 ^ 64) < a ∧ a < 2 ^ 64) ∨ (-(2 ^ 64) < b ∧ b < 2 ^ 64)) ∨ a.natAbs.log2 + b.natAbs.log2 < 1000000
noncomputable def dMul : D → D → Option D
  | .int a, .int b => if MulOk a b then some (.int (a * b)) else none
  | _, _ => none
noncomputable def dFdiv : D → D → Option D
  | .int a, .int b => if 0 < b ∧ (b.natAbs.log2 < 9000 ∨ a.natAbs.log2 ≤ b.natAbs.log2 + 4400) then some (.int (a / b)) else none
  | _, _ => none
noncomputable def dMod : D → D → Option D
  | .int a, .int b => if 0 < b then some (.int (a % b)) else none
  | _, _ => none
noncomputable def dPow : D → D → Option D
  | .int a, .int b => if 0 ≤ b ∧ b ≤ 1000000 ∧ a.natAbs < 2 ^ 64 then some (.int (a ^ b.toNat)) else none
  | _, _ => none
noncomputable def dNeg : D → Option D | .int a => some (.int (-a)) | _ => none
noncomputable def dLt : D → D → Option D | .int a, .int b => some (.bl (decide (a < b))) | _, _ => none
noncomputable def dLe : D → D → Option D | .int a, .int b => some (.bl (decide (a ≤ b))) | _, _ => none
noncomputable def dGt : D → D → Option D | .int a, .int b => some (.bl (decide (b < a))) | _, _ => none
noncomputable def dGe : D → D → Option D | .int a, .int b => some (.bl (decide (b ≤ a))) | _, _ => none
mutual
noncomputable def toP : D → Option PyData
  | .non => some .none
  | .bl b => some (.bool b)
  | .int i => some (.int i)
  | .str x => some (.str x)
  | .lst xs => (toPs xs).map .list
  | .rol xs => (toPs xs).map .list
  | .tup xs => (toPs xs).map .tuple
  | .ob _ _ => none
  | .dic _ => none
  | .oba _ _ _ => none
  | .fn _ _ _ => none
noncomputable def toPs : List D → Option (List PyData)
  | [] => some []
  | x :: xs => (toP x).bind fun p => (toPs xs).bind fun ps => some (p :: ps)
end
noncomputable def dEqB (x y : D) : Option Bool := (toP x).bind fun p => (toP y).bind fun q => if SeqAt.shaped p = true ∧ SeqAt.shaped q = true then some (PyData.eqv p q) else none
noncomputable def dEq (x y : D) : Option D := (dEqB x y).map .bl
noncomputable def dNe (x y : D) : Option D := (dEqB x y).map fun b => .bl (!b)
/-- == of ints, bools, texts, None -/
noncomputable def dEqF : D → D → Option D
  | .int a, .int b => some (.bl (decide (a = b)))
  | .bl a, .bl b => some (.bl (decide (a = b)))
  | .str a, .str b => some (.bl (decide (a = b)))
  | _, _ => none
noncomputable def dNeF : D → D → Option D
  | .int a, .int b => some (.bl (!decide (a = b)))
  | .bl a, .bl b => some (.bl (!decide (a = b)))
  | .str a, .str b => some (.bl (!decide (a = b)))
  | _, _ => none
noncomputable def dIx : D → D → Option D
  | .lst xs, .int i => atI xs i
  | .rol xs, .int i => atI xs i
  | .tup xs, .int i => atI xs i
  | .str z, .int i => if z.length ≤ 100000 then (atI z.cps.toList i).map fun c => .str ⟨#[c]⟩ else none
  | _, _ => none
noncomputable def dLen : D → Option D
  | .lst xs => some (.int xs.length)
  | .rol xs => some (.int xs.length)
  | .tup xs => some (.int xs.length)
  | .str z => if z.length ≤ 100000 then some (.int z.length) else none
  | _ => none
noncomputable def dInt : D → Option D
  | .int i => some (.int i)
  | .bl b => some (.int (if b then 1 else 0))
  | _ => none
noncomputable def dMax2 : D → D → Option D | .int i, .int j => some (.int (if j > i then j else i)) | _, _ => none
noncomputable def dList : D → Option D
  | .lst xs => some (.lst xs)
  | .rol xs => some (.lst xs)
  | .tup xs => some (.lst xs)
  | _ => none
noncomputable def cutD (xs : List D) (lo hi : Option Int) : List D := (xs.drop (HT.sIx xs.length 0 lo)).take (HT.sIx xs.length xs.length hi - HT.sIx xs.length 0 lo)
noncomputable def dTru : D → Option Bool
  | .non => some false
  | .bl b => some b
  | .int i => some (i != 0)
  | .str y => if y.length ≤ 100000 then some ((y.length : Int) != 0) else none
  | .lst xs => some (!xs.isEmpty)
  | .rol xs => some (!xs.isEmpty)
  | .tup xs => some (!xs.isEmpty)
  | _ => none
inductive Ty where | int | bool | str | list | tuple
  deriving DecidableEq
noncomputable def Ty.nm : Ty → String | .int => "int" | .bool => "bool" | .str => "str" | .list => "list" | .tuple => "tuple"
/-- isinstance against a built-in class -/
noncomputable def dIsi (t : Ty) : D → Option D
  | .non => some (.bl false)
  | .bl _ => some (.bl (t = .bool ∨ t = .int))
  | .int _ => some (.bl (t = .int))
  | .str _ => some (.bl (t = .str))
  | .lst _ => some (.bl (t = .list))
  | .tup _ => some (.bl (t = .tuple))
  | _ => none

/-! ### what a reading does on data -/
section
variable (K : PySem.W.Frag) (cl : Cl)
noncomputable def EV (te : TE) (S : List Sl) (m : Option D) (S' : List Sl) : Prop := ∀ (B : Bs) (G H : Hp) (σ : L2.St), Sig K cl B G H S σ → ∀ d, m = some d → ∀ Q : VK,
  (∀ v G' H', Sig K cl B G' H' S' σ → Ex G G' → Ex2 H H' → Rep K cl G' v d → Q v H') → te σ H Q
/-- a new list -/
noncomputable def EVN (te : TE) (S : List Sl) (m : Option D) (S' : List Sl) : Prop := ∀ (B : Bs) (G H : Hp) (σ : L2.St), Sig K cl B G H S σ → ∀ d, m = some d → ∀ Q : VK,
  (∀ p vs xs G' H', Sig K cl B G' H' S' σ → Ex G G' → Ex2 H H' → d = .lst xs → H' p = none → Reps K cl G' vs xs → Q (.ref p) (upd H' p (.lst vs))) → te σ H Q
noncomputable def ET (tt : TT) (S : List Sl) (m : Option Bool) (S' : List Sl) : Prop := ∀ (B : Bs) (G H : Hp) (σ : L2.St), Sig K cl B G H S σ → ∀ b, m = some b → ∀ Q : Bool → Hp → Prop,
  (∀ G' H', Sig K cl B G' H' S' σ → Ex G G' → Ex2 H H' → Q b H') → tt σ H Q
noncomputable def EA (ta : TA) (S : List Sl) (m : Option (List D)) (S' : List Sl) : Prop := ∀ (B : Bs) (G H : Hp) (σ : L2.St), Sig K cl B G H S σ → ∀ ds, m = some ds → ∀ Q : List V → Hp → Prop,
  (∀ vs G' H', Sig K cl B G' H' S' σ → Ex G G' → Ex2 H H' → Reps K cl G' vs ds → Q vs H') → ta σ H Q
/-- operations by values -/
noncomputable def Op2 (r : R2) (f : D → D → Option D) : Prop := ∀ (G H : Hp) x y d e z, Ex G H → Rep K cl G x d → Rep K cl G y e → f d e = some z → ∀ Q : VK, (∀ v, Rep K cl G v z → Q v H) → r x y H Q
noncomputable def Op2N (r : R2) (f : D → D → Option D) : Prop := ∀ (G H : Hp) x y d e z, Ex G H → Rep K cl G x d → Rep K cl G y e → f d e = some z → ∀ Q : VK,
  (∀ p vs xs, H p = none → z = .lst xs → Reps K cl G vs xs → Q (.ref p) (upd H p (.lst vs))) → r x y H Q
noncomputable def OpN (r : List V → Hp → VK → Prop) (f : List D → Option D) : Prop := ∀ (G H : Hp) xs ds z, Ex G H → Reps K cl G xs ds → f ds = some z → ∀ Q : VK, (∀ v, Rep K cl G v z → Q v H) → r xs H Q
noncomputable def OpNN (r : List V → Hp → VK → Prop) (f : List D → Option D) : Prop := ∀ (G H : Hp) xs ds z, Ex G H → Reps K cl G xs ds → f ds = some z → ∀ Q : VK,
  (∀ p vs xs, H p = none → z = .lst xs → Reps K cl G vs xs → Q (.ref p) (upd H p (.lst vs))) → r xs H Q
end
section
variable {K : PySem.W.Frag} {cl : Cl} {S S1 S2 S' : List Sl} {ta tb te : TE} {m n : Option D} {t u : TT}
theorem EVN.ev (h : EVN K cl te S m S') : EV K cl te S m S' := fun B G H σ I d hm Q q =>
  h B G H σ I d hm Q fun p vs xs G' H' I' eg eh ed hp r => by
    subst ed
    have nx := Nxt.new (o := .lst vs) I'.nxt.gh hp
    exact q _ _ _ (I'.step nx) (eg.trans nx.g) (eh.trans nx.h) (.lst upd_same (r.mono nx.g))
theorem ev_v {i : Nat} {d : D} (h : S[i]? = some (.vl d)) : EV K cl (tVar i) S (some d) S := fun B G H σ I d' e Q q => by
  cases e
  obtain ⟨v, h1, r⟩ := I.vl h
  exact ⟨v, h1, q v G H I (Ex.refl _) (Ex2.refl _) r⟩
theorem ev_int {i : Int} : EV K cl (tC (.int i)) S (some (.int i)) S := fun B G H σ I d e Q q => by cases e; exact q _ G H I (Ex.refl _) (Ex2.refl _) .int
theorem ev_bl {b : Bool} : EV K cl (tC (.bl b)) S (some (.bl b)) S := fun B G H σ I d e Q q => by cases e; exact q _ G H I (Ex.refl _) (Ex2.refl _) .bl
theorem ev_str {x : Str} : EV K cl (tC (.str x)) S (some (.str x)) S := fun B G H σ I d e Q q => by cases e; exact q _ G H I (Ex.refl _) (Ex2.refl _) .str
theorem ev_non : EV K cl (tC .non) S (some .non) S := fun B G H σ I d e Q q => by cases e; exact q _ G H I (Ex.refl _) (Ex2.refl _) .non
theorem bind_some {α β : Type} {m : Option α} {f : α → Option β} {b : β} (h : m.bind f = some b) : ∃ a, m = some a ∧ f a = some b := Option.bind_eq_some_iff.mp h
theorem rep_B {G : Hp} {v : V} {x : D} {c : Bool} (r : Rep K cl G v x) (h : asB x = some c) : v = .bl c := by
  cases r <;> cases h
  rfl
theorem ev_op {r : R2} {f : D → D → Option D} (o : Op2 K cl r f) (ha : EV K cl ta S m S1) (hb : EV K cl tb S1 n S2) : EV K cl (tOp r ta tb) S (m.bind fun x => n.bind fun y => f x y) S2 := fun B G H σ I z e Q q => by
  obtain ⟨a, ea, e⟩ := bind_some e
  obtain ⟨b, eb, e⟩ := bind_some e
  refine ha B G H σ I a ea _ fun x G1 H1 I1 g1 h1 rx => ?_
  refine hb B G1 H1 σ I1 b eb _ fun y G2 H2 I2 g2 h2 ry => ?_
  exact o G2 H2 x y a b z I2.nxt.gh (rx.mono g2) ry e Q fun v rv => q v G2 H2 I2 (g1.trans g2) (h1.trans h2) rv
theorem evn_op {r : R2} {f : D → D → Option D} (o : Op2N K cl r f) (ha : EV K cl ta S m S1) (hb : EV K cl tb S1 n S2) : EVN K cl (tOp r ta tb) S (m.bind fun x => n.bind fun y => f x y) S2 := fun B G H σ I z e Q q => by
  obtain ⟨a, ea, e⟩ := bind_some e
  obtain ⟨b, eb, e⟩ := bind_some e
  refine ha B G H σ I a ea _ fun x G1 H1 I1 g1 h1 rx => ?_
  refine hb B G1 H1 σ I1 b eb _ fun y G2 H2 I2 g2 h2 ry => ?_
  exact o G2 H2 x y a b z I2.nxt.gh (rx.mono g2) ry e Q fun p vs xs hp ez r => q p vs xs G2 H2 I2 (g1.trans g2) (h1.trans h2) ez hp r
theorem et_op {r : R2} {f : D → D → Option D} (o : Op2 K cl r f) (ha : EV K cl ta S m S1) (hb : EV K cl tb S1 n S2) : ET K cl (tTest (tOp r ta tb)) S (m.bind fun x => n.bind fun y => (f x y).bind asB) S2 := fun B G H σ I z e Q q => by
  obtain ⟨a, ea, e⟩ := bind_some e
  obtain ⟨b, eb, e⟩ := bind_some e
  obtain ⟨c, ec, e⟩ := bind_some e
  refine ha B G H σ I a ea _ fun x G1 H1 I1 g1 h1 rx => ?_
  refine hb B G1 H1 σ I1 b eb _ fun y G2 H2 I2 g2 h2 ry => ?_
  exact o G2 H2 x y a b c I2.nxt.gh (rx.mono g2) ry ec _ fun v rv => ⟨z, rep_B rv e, q G2 H2 I2 (g1.trans g2) (h1.trans h2)⟩
theorem ev_un {r : V → Hp → VK → Prop} {f : D → Option D} (o : ∀ (G H : Hp) x d z, Ex G H → Rep K cl G x d → f d = some z → ∀ Q : VK, (∀ v, Rep K cl G v z → Q v H) → r x H Q) (ha : EV K cl ta S m S1) : EV K cl (tUn r ta) S (m.bind f) S1 := fun B G H σ I z e Q q => by
  obtain ⟨a, ea, e⟩ := bind_some e
  refine ha B G H σ I a ea _ fun x G1 H1 I1 g1 h1 rx => ?_
  exact o G1 H1 x a z I1.nxt.gh rx e Q fun v rv => q v G1 H1 I1 g1 h1 rv
/-- arguments -/
theorem ea_nil : EA K cl tNil S (some []) S := fun B G H σ I ds e Q q => by cases e; exact q [] G H I (Ex.refl _) (Ex2.refl _) .nil
theorem ea_cons {tr : TA} {ms : Option (List D)} (ha : EV K cl ta S m S1) (hr : EA K cl tr S1 ms S2) : EA K cl (tCons ta tr) S (m.bind fun x => ms.bind fun xs => some (x :: xs)) S2 := fun B G H σ I ds e Q q => by
  obtain ⟨a, ea, e⟩ := bind_some e
  obtain ⟨as, eas, e⟩ := bind_some e
  cases e
  refine ha B G H σ I a ea _ fun x G1 H1 I1 g1 h1 rx => ?_
  refine hr B G1 H1 σ I1 as eas _ fun vs G2 H2 I2 g2 h2 rs => ?_
  exact q _ G2 H2 I2 (g1.trans g2) (h1.trans h2) (.cons (rx.mono g2) rs)
theorem ev_cb {r : List V → Hp → VK → Prop} {f : List D → Option D} {ts : TA} {ms : Option (List D)} (o : OpN K cl r f) (ha : EA K cl ts S ms S1) : EV K cl (tCB r ts) S (ms.bind f) S1 := fun B G H σ I z e Q q => by
  obtain ⟨ds, eds, e⟩ := bind_some e
  exact ha B G H σ I ds eds _ fun vs G1 H1 I1 g1 h1 rs => o G1 H1 vs ds z I1.nxt.gh rs e Q fun v rv => q v G1 H1 I1 g1 h1 rv
theorem evn_cb {r : List V → Hp → VK → Prop} {f : List D → Option D} {ts : TA} {ms : Option (List D)} (o : OpNN K cl r f) (ha : EA K cl ts S ms S1) : EVN K cl (tCB r ts) S (ms.bind f) S1 := fun B G H σ I z e Q q => by
  obtain ⟨ds, eds, e⟩ := bind_some e
  exact ha B G H σ I ds eds _ fun vs G1 H1 I1 g1 h1 rs => o G1 H1 vs ds z I1.nxt.gh rs e Q fun p vs xs hp ez r => q p vs xs G1 H1 I1 g1 h1 ez hp r
/-- displays -/
noncomputable def few (k : List D → D) (xs : List D) : Option D := if xs.length ≤ 100000 then some (k xs) else none
theorem ev_tup {ts : TA} {ms : Option (List D)} (ha : EA K cl ts S ms S1) : EV K cl (tTup ts) S (ms.bind (few .tup)) S1 := fun B G H σ I z e Q q => by
  obtain ⟨ds, eds, e⟩ := bind_some e
  unfold few at e
  split at e
  · rename_i hl
    cases e
    refine ha B G H σ I ds eds _ fun vs G1 H1 I1 g1 h1 rs => ?_
    refine ⟨sz_of (by rw [rs.length]; exact hl), fun p hp => ?_⟩
    have nx := Nxt.new (o := .tup vs) I1.nxt.gh hp
    exact q _ _ _ (I1.step nx) (g1.trans nx.g) (h1.trans nx.h) (.tup (st_of upd_same) (rs.mono nx.g))
  · cases e
theorem evn_lst {ts : TA} {ms : Option (List D)} (ha : EA K cl ts S ms S1) : EVN K cl (tLst ts) S (ms.bind (few .lst)) S1 := fun B G H σ I z e Q q => by
  obtain ⟨ds, eds, e⟩ := bind_some e
  unfold few at e
  split at e
  · rename_i hl
    cases e
    exact ha B G H σ I ds eds _ fun vs G1 H1 I1 g1 h1 rs => ⟨sz_of (by rw [rs.length]; exact hl), fun p hp => q p vs ds G1 H1 I1 g1 h1 rfl hp rs⟩
  · cases e
/-- truth values as tests, tests -/
theorem et_B (h : EV K cl te S m S1) : ET K cl (tB te) S (m.bind asB) S1 := fun B G H σ I b e Q q => by
  obtain ⟨a, ea, e⟩ := bind_some e
  exact h B G H σ I a ea _ fun v G1 H1 I1 g1 h1 rv => ⟨b, rep_B rv e, q G1 H1 I1 g1 h1⟩
theorem et_tru (h : EV K cl te S m S1) : ET K cl (fun σ H Q => te σ H fun x H' => ∃ k, TruV K x H' k ∧ Q k H') S (m.bind dTru) S1 := fun B G H σ I b e Q q => by
  obtain ⟨a, ea, e⟩ := bind_some e
  refine h B G H σ I a ea _ fun v G1 H1 I1 g1 h1 rv => ⟨b, ?_, q G1 H1 I1 g1 h1⟩
  have em : ∀ {vs : List V} {ds : List D}, Reps K cl G1 vs ds → (!vs.isEmpty) = !ds.isEmpty := fun r => by cases r <;> rfl
  cases rv with
  | non => cases e; rfl
  | bl => cases e; rfl
  | int => cases e; rfl
  | str =>
    simp only [dTru] at e
    split at e
    · rename_i hl
      exact ⟨sz_of hl, (Option.some.inj e).symm⟩
    · cases e
  | lst hg rs => cases e; exact Or.inl ⟨_, sq_of (I1.nxt.gh _ _ hg), (em rs).symm⟩
  | rol hg rs => cases e; exact Or.inl ⟨_, ex_l I1.nxt.gh hg, (em rs).symm⟩
  | tup hg rs => cases e; exact Or.inr (Or.inl ⟨_, ex_t I1.nxt.gh hg, (em rs).symm⟩)
  | ob _ _ => cases e
  | dic _ _ => cases e
  | oba _ _ => cases e
  | fn _ _ _ _ => cases e
theorem et_and {a b : Option Bool} (h1 : ET K cl t S a S1) (h2 : ET K cl u S1 b S1) : ET K cl (tAnd t u) S (a.bind fun x => if x = true then b else some false) S1 := fun B G H σ I z e Q q => by
  obtain ⟨x, ex, e⟩ := bind_some e
  refine h1 B G H σ I x ex _ fun G1 H1 I1 g1 h1' => ?_
  cases x with
  | true => exact h2 B G1 H1 σ I1 z e Q fun G2 H2 I2 g2 h2' => q G2 H2 I2 (g1.trans g2) (h1'.trans h2')
  | false => cases e; exact q G1 H1 I1 g1 h1'
theorem et_or {a b : Option Bool} (h1 : ET K cl t S a S1) (h2 : ET K cl u S1 b S1) : ET K cl (tOr t u) S (a.bind fun x => if x = true then some true else b) S1 := fun B G H σ I z e Q q => by
  obtain ⟨x, ex, e⟩ := bind_some e
  refine h1 B G H σ I x ex _ fun G1 H1 I1 g1 h1' => ?_
  cases x with
  | true => cases e; exact q G1 H1 I1 g1 h1'
  | false => exact h2 B G1 H1 σ I1 z e Q fun G2 H2 I2 g2 h2' => q G2 H2 I2 (g1.trans g2) (h1'.trans h2')
theorem et_not {a : Option Bool} (h1 : ET K cl t S a S1) : ET K cl (tNot t) S (a.map fun x => !x) S1 := fun B G H σ I z e Q q => by
  obtain ⟨x, ex, e⟩ := Option.map_eq_some_iff.mp e
  subst e
  exact h1 B G H σ I x ex _ fun G1 H1 I1 g1 h1' => q G1 H1 I1 g1 h1'
theorem ev_and (h1 : EV K cl ta S m S1) (h2 : EV K cl tb S1 n S1) : EV K cl (tAndV ta tb) S (m.bind fun x => (asB x).bind fun c => if c = true then n else some (.bl false)) S1 := fun B G H σ I z e Q q => by
  obtain ⟨x, ex, e⟩ := bind_some e
  obtain ⟨c, ec, e⟩ := bind_some e
  refine h1 B G H σ I x ex _ fun v G1 H1 I1 g1 h1' rv => ⟨c, rep_B rv ec, ?_⟩
  cases c with
  | true => exact h2 B G1 H1 σ I1 z e Q fun v G2 H2 I2 g2 h2' => q v G2 H2 I2 (g1.trans g2) (h1'.trans h2')
  | false => cases e; exact q _ G1 H1 I1 g1 h1' .bl
theorem ev_or (h1 : EV K cl ta S m S1) (h2 : EV K cl tb S1 n S1) : EV K cl (tOrV ta tb) S (m.bind fun x => (asB x).bind fun c => if c = true then some (.bl true) else n) S1 := fun B G H σ I z e Q q => by
  obtain ⟨x, ex, e⟩ := bind_some e
  obtain ⟨c, ec, e⟩ := bind_some e
  refine h1 B G H σ I x ex _ fun v G1 H1 I1 g1 h1' rv => ⟨c, rep_B rv ec, ?_⟩
  cases c with
  | true => cases e; exact q _ G1 H1 I1 g1 h1' .bl
  | false => exact h2 B G1 H1 σ I1 z e Q fun v G2 H2 I2 g2 h2' => q v G2 H2 I2 (g1.trans g2) (h1'.trans h2')
theorem ev_not (h1 : EV K cl ta S m S1) : EV K cl (tNotV ta) S (m.bind fun x => (asB x).map fun b => .bl (!b)) S1 := fun B G H σ I z e Q q => by
  obtain ⟨x, ex, e⟩ := bind_some e
  obtain ⟨c, ec, e⟩ := Option.map_eq_some_iff.mp e
  subst e
  exact h1 B G H σ I x ex _ fun v G1 H1 I1 g1 h1' rv => ⟨c, rep_B rv ec, q _ G1 H1 I1 g1 h1' .bl⟩
theorem ev_ife {a : Option Bool} (h : ET K cl t S a S1) (h1 : EV K cl ta S1 m S1) (h2 : EV K cl tb S1 n S1) : EV K cl (tIf t ta tb) S (a.bind fun c => if c = true then m else n) S1 := fun B G H σ I z e Q q => by
  obtain ⟨x, ex, e⟩ := bind_some e
  refine h B G H σ I x ex _ fun G1 H1 I1 g1 h1' => ?_
  cases x with
  | true => exact h1 B G1 H1 σ I1 z e Q fun v G2 H2 I2 g2 h2' => q v G2 H2 I2 (g1.trans g2) (h1'.trans h2')
  | false => exact h2 B G1 H1 σ I1 z e Q fun v G2 H2 I2 g2 h2' => q v G2 H2 I2 (g1.trans g2) (h1'.trans h2')

/-! ### an owned thing read for a while -/
noncomputable def flatD : D → Option D
  | .non => some .non | .bl b => some (.bl b) | .int i => some (.int i) | .str x => some (.str x) | _ => none
theorem flat_rep {G G' : Hp} {v : V} {d z : D} (h : flatD d = some z) (r : Rep K cl G v d) : Rep K cl G' v z := by
  cases r <;> cases h <;> constructor
theorem Sig.lend {B : Bs} {G H : Hp} {σ : L2.St} (I : Sig K cl B G H S σ) {i : Nat} {sh : Sh} {d : D} (h : S[i]? = some (.ow sh d)) {G' H' : Hp} (I' : Sig K cl B G' H' (S.set i (.vl d)) σ) (eg : Ex G G') (eh : Ex2 H H') : Sig K cl B G H' S σ := by
  obtain ⟨A, hs, ap⟩ := I.slots
  refine ⟨⟨I.nxt.g, I'.nxt.h, eg.trans I'.nxt.gh, I.nxt.fr⟩, I.len, fun a ha => ⟨(I'.tab a ha).1, (I.tab a ha).2⟩, A, fun j s hj => ?_, ap⟩
  obtain ⟨o, h1, h2⟩ := hs j s hj
  refine ⟨o, h1, ?_⟩
  cases s with
  | jk => exact h2
  | vl d' => exact h2
  | ow sh' d' =>
    obtain ⟨v, e, ow, nd, out⟩ := h2
    exact ⟨v, e, ow.step (Ex.refl _) (fun p _ u _ hu => eh _ _ hu), nd, out⟩
theorem ev_lend {i : Nat} {sh : Sh} {d : D} (h : S[i]? = some (.ow sh d)) (he : EV K cl te (S.set i (.vl d)) m (S.set i (.vl d))) : EV K cl te S (m.bind flatD) S := fun B G H σ I z e Q q => by
  obtain ⟨x, ex, e⟩ := bind_some e
  obtain ⟨_, G1, _, g1, _, I1⟩ := I.share h
  refine he B G1 H σ I1 x ex Q fun v G2 H2 I2 g2 h2 rv => ?_
  exact q v G H2 (I.lend h I2 (g1.trans g2) h2) (Ex.refl _) h2 (flat_rep e rv)
theorem et_lend {i : Nat} {sh : Sh} {d : D} {a : Option Bool} (h : S[i]? = some (.ow sh d)) (he : ET K cl t (S.set i (.vl d)) a (S.set i (.vl d))) : ET K cl t S a S := fun B G H σ I z e Q q => by
  obtain ⟨_, G1, _, g1, _, I1⟩ := I.share h
  refine he B G1 H σ I1 z e Q fun G2 H2 I2 g2 h2 => ?_
  exact q G H2 (I.lend h I2 (g1.trans g2) h2) (Ex.refl _) h2
/-- a new list of flat things -/
noncomputable def flatDs : List D → Option (List D)
  | [] => some []
  | x :: xs => (flatD x).bind fun y => (flatDs xs).bind fun ys => some (y :: ys)
noncomputable def flatL : D → Option D | .lst xs => (flatDs xs).map .lst | _ => none
theorem flat_reps {G G' : Hp} : ∀ {vs : List V} {ds zs : List D}, flatDs ds = some zs → Reps K cl G vs ds → Reps K cl G' vs zs
  | _, _, _, h, .nil => by cases h; exact .nil
  | _, _, _, h, .cons r t => by
    obtain ⟨y, e1, h⟩ := bind_some h
    obtain ⟨ys, e2, h⟩ := bind_some h
    cases h
    exact .cons (flat_rep e1 r) (flat_reps e2 t)
theorem evn_lend {i : Nat} {sh : Sh} {d : D} (h : S[i]? = some (.ow sh d)) (he : EVN K cl te (S.set i (.vl d)) m (S.set i (.vl d))) : EVN K cl te S (m.bind flatL) S := fun B G H σ I z e Q q => by
  obtain ⟨x, ex, e⟩ := bind_some e
  obtain ⟨_, G1, _, g1, _, I1⟩ := I.share h
  refine he B G1 H σ I1 x ex Q fun p vs xs G2 H2 I2 g2 h2 ex2 hp rs => ?_
  subst ex2
  obtain ⟨zs, ez, rfl⟩ := Option.map_eq_some_iff.mp e
  exact q p vs zs G H2 (I.lend h I2 (g1.trans g2) h2) (Ex.refl _) h2 rfl hp (flat_reps ez rs)
/-- what is new and owned, whatever its shape -/
noncomputable def EVO (K : PySem.W.Frag) (cl : Cl) (sh : Sh) (te : TE) (S : List Sl) (m : Option D) (S' : List Sl) : Prop := ∀ (B : Bs) (G H : Hp) (σ : L2.St), Sig K cl B G H S σ → ∀ d, m = some d → ∀ Q : VK,
  (∀ v G' H', Sig K cl B G' H' (S' ++ [.ow sh d]) (σ ++ [some v]) → Ex G G' → Ex2 H H' → Q v H') → te σ H Q
theorem EVN.evo (h : EVN K cl te S m S') : EVO K cl (.l .v) te S m S' := fun B G H σ I d hm Q q =>
  h B G H σ I d hm Q fun p vs xs G' H' I' eg eh ed hp r => by
    subst ed
    have nx := Nxt.lay (o := .lst vs) I'.nxt.gh hp
    exact q _ _ _ (I'.push nx (Own.mkFlat upd_same r) (by simp) fun p' hp' => by rw [List.mem_singleton.mp hp']; exact ⟨hp, fresh_back I'.nxt.gh hp⟩) eg (eh.trans nx.h)
end
end Oh
namespace Oh
open PySem PySem.Spec PyProof.Rows L2 Evl

section
variable {K : PySem.W.Frag} {cl : Cl} {X : Cx}
/-- int + int, text + text -/
noncomputable def rAddD : R2 := fun x y H Q => rI0 (fun i j => .int (i + j)) x y H Q ∨ ∃ i j, x = .str i ∧ y = .str j ∧ i.length + j.length ≤ sizeLine ∧ Q (.str (i ++ j)) H
theorem op_addD : OpR X (binaryOp .Add) rAddD := op_add.or op_add_str
theorem o_add : Op2 K cl rAddD dAdd := by
  intro G H x y d e z gh rx ry h Q q
  cases rx <;> cases ry <;> simp only [dAdd] at h <;> try (cases h; done)
  · cases h
    exact Or.inl ⟨_, _, rfl, rfl, q _ .int⟩
  · split at h
    · rename_i hl
      cases h
      exact Or.inr ⟨_, _, rfl, rfl, sz_of hl, q _ .str⟩
    · cases h
theorem o_sub : Op2 K cl (rI0 fun i j => .int (i - j)) dSub := by
  intro G H x y d e z gh rx ry h Q q
  cases rx <;> cases ry <;> simp only [dSub] at h <;> try (cases h; done)
  cases h
  exact ⟨_, _, rfl, rfl, q _ .int⟩
noncomputable def rMulD : R2 := fun x y H Q => rI CMul (fun i j => .int (i * j)) x y H Q ∨ rI CMulW (fun i j => .int (i * j)) x y H Q
theorem op_mulD : OpR X (binaryOp .Mult) rMulD := op_mul.or op_mulW
theorem o_mul : Op2 K cl rMulD dMul := by
  intro G H x y d e z gh rx ry h Q q
  cases rx <;> cases ry <;> simp only [dMul] at h <;> try (cases h; done)
  split at h
  · rename_i hl
    cases h
    rcases hl with hl | hl
    · exact Or.inl ⟨_, _, rfl, rfl, hl, q _ .int⟩
    · exact Or.inr ⟨_, _, rfl, rfl, hl, q _ .int⟩
  · cases h
/-- // by a positive divisor below 2 ^ 9000, or with a quotient that is not long -/
noncomputable def CDivP (i j : Int) : Prop := 0 < j ∧ (j.natAbs.log2 < 9000 ∨ i.natAbs.log2 ≤ j.natAbs.log2 + 4400)
theorem noPy {i j : Int} (h : 0 < j) (h2 : i.natAbs.log2 ≤ j.natAbs.log2 + 4400) : Builtin.divisionGoesByPylong i j = false := by
  have e : (j == 0) = false := by rw [beq_eq_false_iff_ne]; omega
  have key : ¬ (if i == 0 then 0 else i.natAbs.log2 / 30 + 1) > (if j == 0 then 0 else j.natAbs.log2 / 30 + 1) + 150 := by
    rw [if_neg (show ¬ (j == 0) = true by rw [e]; exact Bool.false_ne_true)]
    split <;> omega
  show (_ && decide ((if i == 0 then 0 else i.natAbs.log2 / 30 + 1) > (if j == 0 then 0 else j.natAbs.log2 / 30 + 1) + 150)) = false
  rw [decide_eq_false key, Bool.and_false]
theorem op_fdivP : OpR X (binaryOp .FloorDiv) (rI CDivP fun i j => .int (i / j)) := opI fun i j _ _ _ _ _ hc q => by
  have h1 : (0 : Int) < j := hc.1
  exact floordiv_int (by omega) (by rw [Int.fdiv_eq_ediv_of_nonneg i (by omega)]; exact q) (.inl (hc.2.elim (fun h => PyProof.noPylong_of_log2 h) fun h => noPy h1 h))
theorem o_fdiv : Op2 K cl (rI CDivP fun i j => .int (i / j)) dFdiv := by
  intro G H x y d e z gh rx ry h Q q
  cases rx <;> cases ry <;> simp only [dFdiv] at h <;> try (cases h; done)
  split at h
  · rename_i hl
    cases h
    exact ⟨_, _, rfl, rfl, hl, q _ .int⟩
  · cases h
theorem o_mod : Op2 K cl (rI (fun _ j => 0 < j) fun i j => .int (i % j)) dMod := by
  intro G H x y d e z gh rx ry h Q q
  cases rx <;> cases ry <;> simp only [dMod] at h <;> try (cases h; done)
  split at h
  · rename_i hl
    cases h
    exact ⟨_, _, rfl, rfl, hl, q _ .int⟩
  · cases h
theorem o_pow : Op2 K cl (rI CPow fun i j => .int (i ^ j.toNat)) dPow := by
  intro G H x y d e z gh rx ry h Q q
  cases rx <;> cases ry <;> simp only [dPow] at h <;> try (cases h; done)
  split at h
  · rename_i hl
    cases h
    exact ⟨_, _, rfl, rfl, hl, q _ .int⟩
  · cases h
theorem o_lt : Op2 K cl (rI0 fun i j => .bl (decide (i < j))) dLt := by
  intro G H x y d e z gh rx ry h Q q
  cases rx <;> cases ry <;> simp only [dLt] at h <;> try (cases h; done)
  cases h
  exact ⟨_, _, rfl, rfl, q _ .bl⟩
theorem o_le : Op2 K cl (rI0 fun i j => .bl (decide (i ≤ j))) dLe := by
  intro G H x y d e z gh rx ry h Q q
  cases rx <;> cases ry <;> simp only [dLe] at h <;> try (cases h; done)
  cases h
  exact ⟨_, _, rfl, rfl, q _ .bl⟩
theorem o_gt : Op2 K cl (rI0 fun i j => .bl (decide (j < i))) dGt := by
  intro G H x y d e z gh rx ry h Q q
  cases rx <;> cases ry <;> simp only [dGt] at h <;> try (cases h; done)
  cases h
  exact ⟨_, _, rfl, rfl, q _ .bl⟩
theorem o_ge : Op2 K cl (rI0 fun i j => .bl (decide (j ≤ i))) dGe := by
  intro G H x y d e z gh rx ry h Q q
  cases rx <;> cases ry <;> simp only [dGe] at h <;> try (cases h; done)
  cases h
  exact ⟨_, _, rfl, rfl, q _ .bl⟩
theorem o_eqF : Op2 K cl rEq dEqF := by
  intro G H x y d e z gh rx ry h Q q
  cases rx <;> cases ry <;> simp only [dEqF] at h <;> try (cases h; done)
  all_goals (cases h; refine ⟨rfl, ?_⟩)
  · rename_i a b
    have e : decide (V.bl a = V.bl b) = decide (a = b) := by rw [dec_bl, Bool.beq_eq_decide_eq]
    rw [e]; exact q _ .bl
  · rename_i a b
    have e : decide (V.int a = V.int b) = decide (a = b) := by rw [dec_int]; rfl
    rw [e]; exact q _ .bl
  · rename_i a b
    have e : decide (V.str a = V.str b) = decide (a = b) := by
      by_cases h : a = b
      · subst h; simp
      · rw [decide_eq_false h, decide_eq_false (fun z => h (V.str.inj z))]
    rw [e]; exact q _ .bl
theorem o_neF : Op2 K cl rNe dNeF := by
  intro G H x y d e z gh rx ry h Q q
  cases rx <;> cases ry <;> simp only [dNeF] at h <;> try (cases h; done)
  all_goals (cases h; refine ⟨rfl, ?_⟩)
  · rename_i a b
    have e : decide (V.bl a = V.bl b) = decide (a = b) := by rw [dec_bl, Bool.beq_eq_decide_eq]
    rw [e]; exact q _ .bl
  · rename_i a b
    have e : decide (V.int a = V.int b) = decide (a = b) := by rw [dec_int]; rfl
    rw [e]; exact q _ .bl
  · rename_i a b
    have e : decide (V.str a = V.str b) = decide (a = b) := by
      by_cases h : a = b
      · subst h; simp
      · rw [decide_eq_false h, decide_eq_false (fun z => h (V.str.inj z))]
    rw [e]; exact q _ .bl
mutual
theorem rep_dp {G H : Hp} (gh : Ex G H) : ∀ {v : V} {d : D} {p : PyData}, Rep K cl G v d → toP d = some p → Dp K H v p
  | _, .non, _, .non, h => by cases h; exact .non
  | _, .bl _, _, .bl, h => by cases h; exact .bl _
  | _, .int _, _, .int, h => by cases h; exact .int _
  | _, .str _, _, .str, h => by cases h; exact .str _
  | _, .lst ds, _, .lst hg rs, h => by
    obtain ⟨ps, e, rfl⟩ := Option.map_eq_some_iff.mp h
    exact .lst (sq_of (gh _ _ hg)) (reps_dp gh rs e)
  | _, .rol ds, _, .rol hg rs, h => by
    obtain ⟨ps, e, rfl⟩ := Option.map_eq_some_iff.mp h
    exact .lst (ex_l gh hg) (reps_dp gh rs e)
  | _, .tup ds, _, .tup hg rs, h => by
    obtain ⟨ps, e, rfl⟩ := Option.map_eq_some_iff.mp h
    exact .tup (ex_t gh hg) (reps_dp gh rs e)
  | _, .ob _ _, _, .ob _ _, h => by cases h
  | _, .dic _, _, .dic _ _, h => by cases h
  | _, .oba _ _ _, _, .oba _ _, h => by cases h
  | _, .fn _ _ _, _, .fn _ _ _ _, h => by cases h
theorem reps_dp {G H : Hp} (gh : Ex G H) : ∀ {vs : List V} {ds : List D} {ps : List PyData}, Reps K cl G vs ds → toPs ds = some ps → DpAll K H vs ps
  | _, [], _, .nil, h => by cases h; exact .nil
  | _, d :: ds, _, .cons r rs, h => by
    obtain ⟨p, e1, h⟩ := bind_some h
    obtain ⟨ps, e2, h⟩ := bind_some h
    cases h
    exact .cons (rep_dp gh r e1) (reps_dp gh rs e2)
end
theorem eqB_of {G H : Hp} {x y : V} {d e : D} {b : Bool} (gh : Ex G H) (rx : Rep K cl G x d) (ry : Rep K cl G y e) (h : dEqB d e = some b) :
    ∃ p q, Dp K H x p ∧ Dp K H y q ∧ SeqAt.shaped p = true ∧ SeqAt.shaped q = true ∧ PyData.eqv p q = b := by
  obtain ⟨p, e1, h⟩ := bind_some h
  obtain ⟨q, e2, h⟩ := bind_some h
  split at h
  · rename_i hs
    exact ⟨p, q, rep_dp gh rx e1, rep_dp gh ry e2, hs.1, hs.2, Option.some.inj h⟩
  · cases h
theorem o_eq : Op2 K cl (rEqD K) dEq := by
  intro G H x y d e z gh rx ry h Q q
  obtain ⟨b, eb, rfl⟩ := Option.map_eq_some_iff.mp h
  obtain ⟨p1, p2, h1, h2, h3, h4, h5⟩ := eqB_of gh rx ry eb
  exact ⟨p1, p2, h1, h2, h3, h4, by rw [h5]; exact q _ .bl⟩
theorem o_ne : Op2 K cl (rNeD K) dNe := by
  intro G H x y d e z gh rx ry h Q q
  obtain ⟨b, eb, rfl⟩ := Option.map_eq_some_iff.mp h
  obtain ⟨p1, p2, h1, h2, h3, h4, h5⟩ := eqB_of gh rx ry eb
  exact ⟨p1, p2, h1, h2, h3, h4, by rw [h5]; exact q _ .bl⟩
theorem o_neg {G H : Hp} {x : V} {d z : D} (gh : Ex G H) (r : Rep K cl G x d) (h : dNeg d = some z) (Q : VK) (q : ∀ v, Rep K cl G v z → Q v H) : rU (fun i => .int (-i)) x H Q := by
  cases r <;> cases h
  exact ⟨_, rfl, q _ .int⟩
/-- an item -/
theorem atI_rep {G : Hp} {vs : List V} {ds : List D} {i : Int} {z : D} (rs : Reps K cl G vs ds) (h : atI ds i = some z) : ∃ v, atI vs i = some v ∧ Rep K cl G v z := by
  unfold atI at h ⊢
  obtain ⟨j, e, h⟩ := bind_some h
  rw [rs.length, e]
  exact rs.get h
theorem o_ix : Op2 K cl (rIx K) dIx := by
  intro G H x y d e z gh rx ry h Q q
  cases rx <;> cases ry <;> (try (cases h; done)) <;> (try simp only [dIx] at h)
  · split at h
    · rename_i hl
      obtain ⟨c, ec, rfl⟩ := Option.map_eq_some_iff.mp h
      exact Or.inr (Or.inr ⟨_, _, c, rfl, rfl, sz_of hl, ec, q _ .str⟩)
    · cases h
  · rename_i hg rs i
    obtain ⟨v, ev, rv⟩ := atI_rep rs h
    exact Or.inl ⟨_, _, _, v, rfl, rfl, sq_of (gh _ _ hg), ev, q _ rv⟩
  · rename_i hg rs i
    obtain ⟨v, ev, rv⟩ := atI_rep rs h
    exact Or.inl ⟨_, _, _, v, rfl, rfl, ex_l gh hg, ev, q _ rv⟩
  · rename_i hg rs i
    obtain ⟨v, ev, rv⟩ := atI_rep rs h
    exact Or.inr (Or.inl ⟨_, _, _, v, rfl, rfl, ex_t gh hg, ev, q _ rv⟩)
/-- built-ins -/
theorem call_lenD : CallR X (.builtin "len") (fun xs H Q => (∃ p ys, xs = [.ref p] ∧ (SqL X.K H p ys ∨ SqT X.K H p ys) ∧ Q (.int ys.length) H) ∨ ∃ z, xs = [.str z] ∧ z.length ≤ sizeLine ∧ Q (.int z.length) H) := call_len_seq.or call_len_str
noncomputable def on1 (f : D → Option D) : List D → Option D | [a] => f a | _ => none
noncomputable def on2 (f : D → D → Option D) : List D → Option D | [a, b] => f a b | _ => none
noncomputable def on3 (f : D → D → D → Option D) : List D → Option D | [a, b, c] => f a b c | _ => none
noncomputable def on4 (f : D → D → D → D → Option D) : List D → Option D | [a, b, c, d] => f a b c d | _ => none
noncomputable def on5 (f : D → D → D → D → D → Option D) : List D → Option D | [a, b, c, d, e] => f a b c d e | _ => none
noncomputable def on6 (f : D → D → D → D → D → D → Option D) : List D → Option D | [a, b, c, d, e, g] => f a b c d e g | _ => none
noncomputable def on0 (m : Option D) : List D → Option D | [] => m | _ => none
theorem Reps.one {G : Hp} {vs : List V} {d : D} (r : Reps K cl G vs [d]) : ∃ v, vs = [v] ∧ Rep K cl G v d := by
  cases r with
  | cons r1 r2 => cases r2; exact ⟨_, rfl, r1⟩
theorem Reps.two {G : Hp} {vs : List V} {d e : D} (r : Reps K cl G vs [d, e]) : ∃ v w, vs = [v, w] ∧ Rep K cl G v d ∧ Rep K cl G w e := by
  cases r with
  | cons r1 r2 => obtain ⟨w, rfl, r3⟩ := r2.one; exact ⟨_, w, rfl, r1, r3⟩
theorem of_on1 {f : D → Option D} {ds : List D} {z : D} (h : on1 f ds = some z) : ∃ a, ds = [a] ∧ f a = some z := by
  unfold on1 at h
  split at h
  · exact ⟨_, rfl, h⟩
  · cases h
theorem of_on2 {f : D → D → Option D} {ds : List D} {z : D} (h : on2 f ds = some z) : ∃ a b, ds = [a, b] ∧ f a b = some z := by
  unfold on2 at h
  split at h
  · exact ⟨_, _, rfl, h⟩
  · cases h
theorem o_len : OpN K cl (fun xs H Q => (∃ p ys, xs = [.ref p] ∧ (SqL K H p ys ∨ SqT K H p ys) ∧ Q (.int ys.length) H) ∨ ∃ z, xs = [.str z] ∧ z.length ≤ sizeLine ∧ Q (.int z.length) H) (on1 dLen) := by
  intro G H xs ds z gh rs h Q q
  obtain ⟨a, rfl, h1⟩ := of_on1 h
  clear h
  obtain ⟨v, rfl, r⟩ := rs.one
  clear rs
  cases r with
  | str =>
    simp only [dLen] at h1
    split at h1
    · rename_i hl
      cases h1
      exact Or.inr ⟨_, rfl, sz_of hl, q _ .int⟩
    · cases h1
  | lst hg rs =>
    cases h1
    exact Or.inl ⟨_, _, rfl, Or.inl (sq_of (gh _ _ hg)), by rw [rs.length]; exact q _ .int⟩
  | rol hg rs =>
    cases h1
    exact Or.inl ⟨_, _, rfl, Or.inl (ex_l gh hg), by rw [rs.length]; exact q _ .int⟩
  | tup hg rs =>
    cases h1
    exact Or.inl ⟨_, _, rfl, Or.inr (ex_t gh hg), by rw [rs.length]; exact q _ .int⟩
  | _ => cases h1
theorem o_int : OpN K cl (fun xs H Q => (∃ i, xs = [.int i] ∧ Q (.int i) H) ∨ ∃ k, xs = [.bl k] ∧ Q (.int (if k then 1 else 0)) H) (on1 dInt) := by
  intro G H xs ds z gh rs h Q q
  obtain ⟨a, rfl, h⟩ := of_on1 h
  obtain ⟨v, rfl, r⟩ := rs.one
  cases r <;> cases h
  · exact Or.inr ⟨_, rfl, q _ .int⟩
  · exact Or.inl ⟨_, rfl, q _ .int⟩
theorem o_max2 : OpN K cl (fun xs H Q => ∃ i j, xs = [.int i, .int j] ∧ Q (.int (if j > i then j else i)) H) (on2 dMax2) := by
  intro G H xs ds z gh rs h Q q
  obtain ⟨a, b, rfl, h⟩ := of_on2 h
  obtain ⟨v, w, rfl, r, s⟩ := rs.two
  cases r <;> cases s <;> cases h
  exact ⟨_, _, rfl, q _ .int⟩
theorem o_list : OpNN K cl (fun xs H Q => ∃ p ys, xs = [.ref p] ∧ (SqL K H p ys ∨ SqT K H p ys) ∧ ∀ l, H l = none → Q (.ref l) (upd H l (.lst ys))) (on1 dList) := by
  intro G H xs ds z gh rs h Q q
  obtain ⟨a, rfl, h⟩ := of_on1 h
  obtain ⟨v, rfl, r⟩ := rs.one
  cases r <;> cases h
  · rename_i hg rs' 
    exact ⟨_, _, rfl, Or.inl (sq_of (gh _ _ hg)), fun l hl => q l _ _ hl rfl rs'⟩
  · rename_i hg rs'
    exact ⟨_, _, rfl, Or.inl (ex_l gh hg), fun l hl => q l _ _ hl rfl rs'⟩
  · rename_i hg rs'
    exact ⟨_, _, rfl, Or.inr (ex_t gh hg), fun l hl => q l _ _ hl rfl rs'⟩
theorem o_cat : Op2N K cl rCat dCat := by
  intro G H x y d e z gh rx ry h Q q
  cases rx <;> cases ry <;> simp only [dCat] at h <;> try (cases h; done)
  split at h
  · rename_i g1 r1 _ _ _ g2 r2 hl
    cases h
    exact ⟨_, _, _, _, rfl, rfl, gh _ _ g1, gh _ _ g2, sz_of (by rw [r1.length, r2.length]; exact hl), fun p hp => q p _ _ hp rfl (r1.append r2)⟩
  · cases h
/-- isinstance -/
theorem rep_ty {G H : Hp} (gh : Ex G H) {v : V} {d z : D} {t : Ty} (r : Rep K cl G v d) (h : dIsi t d = some z) : ∃ s : String, ∃ b : Bool, TyX K H v (.type s) ∧ z = .bl b ∧ kitB s t.nm = some b := by
  have tl : ∀ {a : Addr} {xs : List V}, SqT K G a xs → TyX K H (.ref a) (.type "tuple") := fun {a xs} h => by
    rcases h with (h | ⟨o, h⟩) | ⟨o, _, _, h, c, _⟩
    · exact .base (.tup (gh _ _ h))
    · exact .fTuple (gh _ _ h)
    · exact .kTuple h c
  cases r with
  | non => cases h; exact ⟨"NoneType", false, .base .non, rfl, by cases t <;> decide +kernel⟩
  | bl => cases h; exact ⟨"bool", decide (t = .bool ∨ t = .int), .base (.bl _), rfl, by cases t <;> decide +kernel⟩
  | int => cases h; exact ⟨"int", decide (t = .int), .base (.int _), rfl, by cases t <;> decide +kernel⟩
  | str => cases h; exact ⟨"str", decide (t = .str), .base (.str _), rfl, by cases t <;> decide +kernel⟩
  | lst hg _ => cases h; exact ⟨"list", decide (t = .list), .base (.lst (gh _ _ hg)), rfl, by cases t <;> decide +kernel⟩
  | rol _ _ => cases h
  | tup hg _ => cases h; exact ⟨"tuple", decide (t = .tuple), tl hg, rfl, by cases t <;> decide +kernel⟩
  | ob _ _ => cases h
  | dic _ _ => cases h
  | oba _ _ => cases h
  | fn _ _ _ _ => cases h
theorem ev_isi {S S1 : List Sl} {ta : TE} {m : Option D} (t : Ty) (ha : EV K cl ta S m S1) : EV K cl (tCB (rIsi K) (tCons ta (tCons (tC (.ty t.nm)) tNil))) S (m.bind (dIsi t)) S1 := fun B G H σ I z e Q q => by
  obtain ⟨a, ea, e⟩ := bind_some e
  refine ha B G H σ I a ea _ fun x G1 H1 I1 g1 h1 rx => ?_
  obtain ⟨s, b, ht, rfl, hk⟩ := rep_ty I1.nxt.gh rx e
  exact ⟨x, .ty t.nm, .type s, .type t.nm, b, rfl, .ty _, ht, kit_ty hk, q _ G1 H1 I1 g1 h1 .bl⟩
end
end Oh
namespace Oh
open PySem PySem.Spec PyProof.Rows L2 Evl

inductive Fl (β γ : Type) where
  | nx (b : β) | rt (d : D) | bk (c : γ) | ct (c : γ)

section
variable (K : PySem.W.Frag) (cl : Cl)
/-- the end of a def: what is handed back -/
noncomputable def TV (ts : TS) (S : List Sl) (fl : Bool) (m : Option D) : Prop := ∀ (B : Bs) (G H : Hp) (σ : L2.St), Sig K cl B G H S σ → ∀ d, m = some d → ∀ Dn : Ends,
  (∀ v G' H', Nxt B.G B.H G' H' → Rep K cl G' v d → Dn.rt v H') → (fl = true → d = .non → ∀ σ' G' H', Nxt B.G B.H G' H' → Dn.nx σ' H') → ts Dn σ H
/-- a step: it goes on, always -/
noncomputable def SV {β : Type} (ts : TS) (S : List Sl) (m : Option β) (post : β → List Sl) : Prop := ∀ (B : Bs) (G H : Hp) (σ : L2.St), Sig K cl B G H S σ → ∀ b, m = some b → ∀ Dn : Ends,
  (∀ σ' G' H', Sig K cl B G' H' (post b) σ' → Dn.nx σ' H') → ts Dn σ H
noncomputable def FEnd {β γ : Type} (B : Bs) (post : β → List Sl) (out : γ → List Sl) (Dn : Ends) : Fl β γ → Prop
  | .nx b => ∀ σ' G' H', Sig K cl B G' H' (post b) σ' → Dn.nx σ' H'
  | .rt d => ∀ v G' H', Nxt B.G B.H G' H' → Rep K cl G' v d → Dn.rt v H'
  | .bk c => ∀ σ' G' H', Sig K cl B G' H' (out c) σ' → Dn.bk σ' H'
  | .ct c => ∀ σ' G' H', Sig K cl B G' H' (out c) σ' → Dn.ct σ' H'
/-- any way out -/
noncomputable def FV {β γ : Type} (ts : TS) (S : List Sl) (m : Option (Fl β γ)) (post : β → List Sl) (out : γ → List Sl) : Prop := ∀ (B : Bs) (G H : Hp) (σ : L2.St), Sig K cl B G H S σ → ∀ f, m = some f → ∀ Dn : Ends,
  FEnd K cl B post out Dn f → ts Dn σ H
/-- targets -/
noncomputable def GV {γ : Type} (g : TG) (f : D → Option γ) (st : γ → List Sl → List Sl) : Prop := ∀ (B : Bs) (G H : Hp) (σ : L2.St) (S : List Sl), Sig K cl B G H S σ → ∀ v d c, Rep K cl G v d → f d = some c → ∀ Q : L2.St → Hp → Prop,
  (∀ σ', Sig K cl B G H (st c S) σ' → Q σ' H) → g v σ H Q
/-- what is walked -/
structure ItOk (J : It) (xs : List D) (G : Hp) : Prop where
  stop : ∀ G' H', Ex G G' → Ex G' H' → J.stop xs.length H'
  go : ∀ i G' H', i < xs.length → Ex G G' → Ex G' H' → J.go i H'
  yld : ∀ i x G' H' v H'', xs[i]? = some x → Ex G G' → Ex G' H' → J.yld i H' v H'' → ∃ G'', Nxt G' H' G'' H'' ∧ Rep K cl G'' v x
noncomputable def IV (wi : TI) (S : List Sl) (m : Option (List D)) (S1 : List Sl) : Prop := ∀ (B : Bs) (G H : Hp) (σ : L2.St), Sig K cl B G H S σ → ∀ xs, m = some xs → ∀ R : It → Hp → Prop,
  (∀ J G' H', Sig K cl B G' H' S1 σ → Ex G G' → Ex2 H H' → ItOk K cl J xs G' → R J H') → wi σ H R
end

section
variable {K : PySem.W.Frag} {cl : Cl} {S S1 S2 : List Sl} {te ta tb tc : TE} {t u tr : TS} {tt : TT} {m : Option D} {β γ δ : Type}
theorem tv_cons {fl : Bool} {mb : Option β} {post : β → List Sl} {k : β → Option D} (h : SV K cl t S mb post) (r : ∀ b, TV K cl u (post b) fl (k b)) : TV K cl (tSeq t u) S fl (mb.bind k) := fun B G H σ I d e Dn q n => by
  obtain ⟨b, eb, e⟩ := bind_some e
  exact h B G H σ I b eb { Dn with nx := u Dn } fun σ' G' H' I' => r b B G' H' σ' I' d e Dn q n
theorem tv_ret {fl : Bool} (h : EV K cl te S m S1) : TV K cl (tSeq (tRet te) tNever) S fl m := fun B G H σ I d e Dn q n =>
  h B G H σ I d e _ fun v G' H' I' _ _ r => q v G' H' I'.nxt r
theorem tv_ifl {fl : Bool} {mc : Option Bool} {ma mr : Option D} (hc : ET K cl tt S mc S1) (ha : TV K cl t S1 false ma) (hr : TV K cl u S1 fl mr) : TV K cl (tSeq (tIfS tt t tNext) u) S fl (mc.bind fun c => if c = true then ma else mr) := fun B G H σ I d e Dn q n => by
  obtain ⟨c, ec, e⟩ := bind_some e
  refine hc B G H σ I c ec _ fun G1 H1 I1 _ _ => ?_
  cases c with
  | true => exact ha B G1 H1 σ I1 d e _ q fun z => nomatch z
  | false => exact hr B G1 H1 σ I1 d e Dn q n
noncomputable def flT (k : β → Option D) : Fl β Empty → Option D
  | .nx b => k b
  | .rt d => some d
  | .bk c => nomatch c
  | .ct c => nomatch c
theorem tv_flow {fl : Bool} {mb : Option (Fl β Empty)} {post : β → List Sl} {out : Empty → List Sl} {k : β → Option D} (h : FV K cl t S mb post out) (r : ∀ b, TV K cl u (post b) fl (k b)) : TV K cl (tSeq t u) S fl (mb.bind (flT k)) := fun B G H σ I d e Dn q n => by
  obtain ⟨f, ef, e⟩ := bind_some e
  refine h B G H σ I f ef { Dn with nx := u Dn } ?_
  cases f with
  | nx b => exact fun σ' G' H' I' => r b B G' H' σ' I' d e Dn q n
  | rt d' => cases e; exact q
  | bk c => exact nomatch c
  | ct c => exact nomatch c

/-! ### steps -/
theorem sv_nil {post : β → List Sl} (b : β) (w : Weak S (post b)) : SV K cl tNext S (some b) post := fun B G H σ I b' e Dn q => by cases e; exact q σ G H (I.weak w)
theorem sv_cons {mb : Option β} {post : β → List Sl} {k : β → Option γ} {post2 : γ → List Sl} (h : SV K cl t S mb post) (r : ∀ b, SV K cl u (post b) (k b) post2) : SV K cl (tSeq t u) S (mb.bind k) post2 := fun B G H σ I d e Dn q => by
  obtain ⟨b, eb, e⟩ := bind_some e
  exact h B G H σ I b eb { Dn with nx := u Dn } fun σ' G' H' I' => r b B G' H' σ' I' d e Dn q
theorem sv_asg {i : Nat} (h : EV K cl te S m S1) : SV K cl (tAsg te (gName i)) S m (fun d => S1.set i (.vl d)) := fun B G H σ I d e Dn q =>
  h B G H σ I d e _ fun v G' H' I' _ _ r => q _ G' H' (I'.setV r)
theorem sv_asgO {i : Nat} {sh : Sh} (h : EVO K cl sh te S m S1) : SV K cl (tAsg te (gName i)) S m (fun d => S1.set i (.ow sh d)) := fun B G H σ I d e Dn q =>
  h B G H σ I d e _ fun v G' H' I' _ _ => q _ G' H' (I'.take i)
theorem sv_asgN {i : Nat} (h : EVN K cl te S m S1) : SV K cl (tAsg te (gName i)) S m (fun d => S1.set i (.ow (.l .v) d)) := sv_asgO h.evo
theorem sv_asgG {g : TG} {f : D → Option γ} {st : γ → List Sl → List Sl} (h : EV K cl te S m S1) (hg : GV K cl g f st) : SV K cl (tAsg te g) S (m.bind f) (fun c => st c S1) := fun B G H σ I c e Dn q => by
  obtain ⟨d, ed, e⟩ := bind_some e
  exact h B G H σ I d ed _ fun v G' H' I' _ _ r => hg B G' H' σ S1 I' v d c r e _ fun σ' I2 => q σ' G' H' I2
noncomputable def dUn2 : D → Option (D × D) | .tup [a, b] => some (a, b) | _ => none
noncomputable def dUn3 : D → Option (D × D × D) | .tup [a, b, c] => some (a, b, c) | _ => none
theorem gv_name {i : Nat} : GV K cl (gName i) some (fun d S => S.set i (.vl d)) := fun B G H σ S I v d c r e Q q => by cases e; exact q _ (I.setV r)
theorem gv_tup2 {i j : Nat} : GV K cl (gTup K 2 (gCons (gName i) (gCons (gName j) gNil))) dUn2 (fun c S => (S.set i (.vl c.1)).set j (.vl c.2)) := fun B G H σ S I v d c r e Q q => by
  unfold dUn2 at e
  split at e
  · cases e
    cases r with
    | tup hs rs =>
      obtain ⟨x, y, rfl, rx, ry⟩ := rs.two
      exact ⟨_, _, rfl, ex_t I.nxt.gh hs, rfl, x, [y], rfl, y, [], rfl, rfl, q _ ((I.setV rx).setV ry)⟩
  · cases e
theorem gv_tup3 {i j k : Nat} : GV K cl (gTup K 3 (gCons (gName i) (gCons (gName j) (gCons (gName k) gNil)))) dUn3 (fun c S => ((S.set i (.vl c.1)).set j (.vl c.2.1)).set k (.vl c.2.2)) := fun B G H σ S I v d c r e Q q => by
  unfold dUn3 at e
  split at e
  · cases e
    cases r with
    | tup hs rs =>
      cases rs with
      | cons rx rs =>
        obtain ⟨y, z, rfl, ry, rz⟩ := rs.two
        exact ⟨_, _, rfl, ex_t I.nxt.gh hs, rfl, _, [y, z], rfl, y, [z], rfl, z, [], rfl, rfl, q _ (((I.setV rx).setV ry).setV rz)⟩
  · cases e
/-- x.append(e) -/
noncomputable def dApp (d x : D) : Option D := match d with | .lst xs => if xs.length < 100000 then some (.lst (xs ++ [x])) else none | _ => none
theorem sv_app {i : Nat} {d : D} (h0 : S[i]? = some (.ow (.l .v) d)) (h1 : S1[i]? = some (.ow (.l .v) d)) (h : EV K cl te S m S1) : SV K cl (tDrop (tBM K "list" rAppend (tVar i) (tCons te tNil))) S (m.bind fun x => dApp d x) (fun d' => S1.set i (.ow (.l .v) d')) := fun B G H σ I d' e Dn q => by
  obtain ⟨x, ex, e⟩ := bind_some e
  obtain ⟨p, vs, xs, hσ, rfl, hp, gp, bp, rs⟩ := I.ow h0
  refine ⟨.ref p, hσ, Or.inl ⟨rfl, vs, sq_of hp⟩, h B G H σ I x ex _ fun v G' H' I' g1 h1' r => ?_⟩
  unfold dApp at e
  simp only at e
  split at e
  · rename_i hl
    cases e
    refine ⟨p, vs, v, rfl, rfl, h1' _ _ hp, sz_lt (by rw [rs.length]; exact hl), q σ G' _ ?_⟩
    exact I'.mut h1 hσ ((rs.mono g1).append (.cons r .nil))
  · cases e
/-- x[k] = e -/
noncomputable def dSet (d k x : D) : Option D := match d, k with | .lst xs, .int i => (ixN xs.length i).map fun j => .lst (xs.set j x) | _, _ => none
theorem sv_setL {i : Nat} {d : D} {n : Option D} (h0 : S2[i]? = some (.ow (.l .v) d)) (h : EV K cl te S m S1) (h1 : S1[i]? = some (.ow (.l .v) d)) (hk : EV K cl tb S1 n S2) : SV K cl (tAsg te (gSub (tVar i) tb rSetL)) S (m.bind fun x => n.bind fun k => dSet d k x) (fun d' => S2.set i (.ow (.l .v) d')) := fun B G H σ I d' e Dn q => by
  obtain ⟨x, ex, e⟩ := bind_some e
  obtain ⟨k, ek, e⟩ := bind_some e
  refine h B G H σ I x ex _ fun v G1 H1 I1 g1 h1' rv => ?_
  obtain ⟨p, vs, xs, hσ, rfl, hp, gp, bp, rs⟩ := I1.ow h1
  refine ⟨.ref p, hσ, ?_⟩
  refine hk B G1 H1 σ I1 k ek _ fun w G2 H2 I2 g2 h2' rk => ?_
  unfold dSet at e
  split at e
  · rename_i xs' j e1
    cases e1
    obtain ⟨a, ea, rfl⟩ := Option.map_eq_some_iff.mp e
    cases rk
    refine ⟨p, vs, _, a, rfl, rfl, h2' _ _ hp, by rw [rs.length]; exact ea, q σ G2 _ ?_⟩
    exact I2.mut h0 hσ (Reps.set a (rv.mono g2) (rs.mono g2))
  · cases e
theorem sv_if {mc : Option Bool} {ma mb : Option β} {post : β → List Sl} (hc : ET K cl tt S mc S1) (ha : SV K cl t S1 ma post) (hb : SV K cl u S1 mb post) : SV K cl (tIfS tt t u) S (mc.bind fun c => if c = true then ma else mb) post := fun B G H σ I d e Dn q => by
  obtain ⟨c, ec, e⟩ := bind_some e
  refine hc B G H σ I c ec _ fun G1 H1 I1 _ _ => ?_
  cases c with
  | true => exact ha B G1 H1 σ I1 d e _ q
  | false => exact hb B G1 H1 σ I1 d e _ q
/-! ### any way out -/
theorem fv_nil {post : β → List Sl} {out : γ → List Sl} (b : β) (w : Weak S (post b)) : FV K cl tNext S (some (Fl.nx b)) post out := fun B G H σ I f e Dn q => by cases e; exact q σ G H (I.weak w)
theorem fv_cons {mb : Option δ} {post : δ → List Sl} {k : δ → Option (Fl β γ)} {post2 : β → List Sl} {out : γ → List Sl} (h : SV K cl t S mb post) (r : ∀ b, FV K cl u (post b) (k b) post2 out) : FV K cl (tSeq t u) S (mb.bind k) post2 out := fun B G H σ I f e Dn q => by
  obtain ⟨b, eb, e⟩ := bind_some e
  refine h B G H σ I b eb { Dn with nx := u Dn } fun σ' G' H' I' => r b B G' H' σ' I' f e Dn q
theorem fv_ret {post : β → List Sl} {out : γ → List Sl} (h : EV K cl te S m S1) : FV K cl (tSeq (tRet te) tNever) S (m.map Fl.rt) post out := fun B G H σ I f e Dn q => by
  obtain ⟨d, ed, rfl⟩ := Option.map_eq_some_iff.mp e
  exact h B G H σ I d ed _ fun v G' H' I' _ _ r => q v G' H' I'.nxt r
noncomputable def flE : Fl Empty γ → Option (Fl β γ)
  | .nx b => nomatch b
  | .rt d => some (.rt d)
  | .bk c => some (.bk c)
  | .ct c => some (.ct c)
theorem fv_ifl {mc : Option Bool} {ma : Option (Fl Empty γ)} {mr : Option (Fl β γ)} {post : β → List Sl} {post0 : Empty → List Sl} {out : γ → List Sl} (hc : ET K cl tt S mc S1) (ha : FV K cl t S1 ma post0 out) (hr : FV K cl u S1 mr post out) :
    FV K cl (tSeq (tIfS tt t tNext) u) S (mc.bind fun c => if c = true then ma.bind flE else mr) post out := fun B G H σ I f e Dn q => by
  obtain ⟨c, ec, e⟩ := bind_some e
  refine hc B G H σ I c ec _ fun G1 H1 I1 _ _ => ?_
  cases c with
  | true =>
    obtain ⟨f0, ef, e⟩ := bind_some e
    refine ha B G1 H1 σ I1 f0 ef _ ?_
    cases f0 with
    | nx b => exact nomatch b
    | rt d => cases e; exact q
    | bk c => cases e; exact q
    | ct c => cases e; exact q
  | false => exact hr B G1 H1 σ I1 f e Dn q
theorem fv_if {mc : Option Bool} {ma mb : Option (Fl β γ)} {post : β → List Sl} {out : γ → List Sl} (hc : ET K cl tt S mc S1) (ha : FV K cl t S1 ma post out) (hb : FV K cl u S1 mb post out) : FV K cl (tIfS tt t u) S (mc.bind fun c => if c = true then ma else mb) post out := fun B G H σ I d e Dn q => by
  obtain ⟨c, ec, e⟩ := bind_some e
  refine hc B G H σ I c ec _ fun G1 H1 I1 _ _ => ?_
  cases c with
  | true => exact ha B G1 H1 σ I1 d e _ q
  | false => exact hb B G1 H1 σ I1 d e _ q
noncomputable def flF (k : δ → Option (Fl β γ)) : Fl δ γ → Option (Fl β γ)
  | .nx b => k b
  | .rt d => some (.rt d)
  | .bk c => some (.bk c)
  | .ct c => some (.ct c)
theorem fv_flow {mb : Option (Fl δ γ)} {post : δ → List Sl} {k : δ → Option (Fl β γ)} {post2 : β → List Sl} {out : γ → List Sl} (h : FV K cl t S mb post out) (r : ∀ b, FV K cl u (post b) (k b) post2 out) : FV K cl (tSeq t u) S (mb.bind (flF k)) post2 out := fun B G H σ I f e Dn q => by
  obtain ⟨f0, ef, e⟩ := bind_some e
  refine h B G H σ I f0 ef { Dn with nx := u Dn } ?_
  cases f0 with
  | nx b => exact fun σ' G' H' I' => r b B G' H' σ' I' f e Dn q
  | rt d' => cases e; exact q
  | bk c => cases e; exact q
  | ct c => cases e; exact q
/-! ### loops -/
noncomputable def forS (k : D → β → Option β) : List D → β → Option β
  | [], b => some b
  | x :: xs, b => (k x b).bind (forS k xs)
noncomputable def forF (k : D → β → Option (Fl β β)) : List D → β → Option (Fl β γ)
  | [], b => some (.nx b)
  | x :: xs, b => (k x b).bind fun f => match f with
    | .nx b => forF k xs b
    | .ct b => forF k xs b
    | .bk b => some (.nx b)
    | .rt d => some (.rt d)
theorem drop_cons {α : Type} {xs : List α} {i : Nat} {x : α} (h : xs[i]? = some x) : xs.drop i = x :: xs.drop (i + 1) := by
  obtain ⟨hl, e⟩ := List.getElem?_eq_some_iff.mp h
  rw [List.drop_eq_getElem_cons hl, e]
theorem drop_end {α : Type} {xs : List α} {i : Nat} (h : xs.length ≤ i) : xs.drop i = [] := List.drop_eq_nil_of_le h
theorem Nxt.base {G0 H0 G1 G H : Hp} (n : Nxt G0 H0 G1 H1) (m : Nxt G1 H0 G H) : Nxt G0 H0 G H := ⟨n.g.trans m.g, m.h, m.gh, fun p h => by
    rcases m.fr p h with h | h
    · exact n.fr p h
    · exact .inr h⟩
theorem Sig.up {B : Bs} {G H : Hp} {σ : L2.St} (I : Sig K cl B G H S σ) : Sig K cl ⟨G, B.H⟩ G H S σ := ⟨⟨Ex.refl _, I.nxt.h, I.nxt.gh, fun _ h => .inl h⟩, I.len, I.tab, I.slots⟩
theorem Sig.down {B : Bs} {G H G' H' : Hp} {σ σ' : L2.St} {S' : List Sl} (I : Sig K cl B G H S σ) (I' : Sig K cl ⟨G, B.H⟩ G' H' S' σ') : Sig K cl B G' H' S' σ' := ⟨I.nxt.base I'.nxt, I'.len, I'.tab, I'.slots⟩
theorem sv_for {wi : TI} {g : TG} {mi : Option (List D)} {inv : β → List Sl} {γ' : Type} {f : D → Option γ'} {st : γ' → List Sl → List Sl} {k : γ' → β → Option β} (b0 : β) (hi : IV K cl wi S mi S1) (hw : Weak S1 (inv b0)) (hg : GV K cl g f st)
    (hb : ∀ c b, SV K cl t (st c (inv b)) (k c b) inv) : SV K cl (tFor wi g t) S (mi.bind fun xs => forS (fun x b => (f x).bind fun c => k c b) xs b0) inv := fun B G H σ I bz e Dn q => by
  obtain ⟨xs, ex, e⟩ := bind_some e
  refine hi B G H σ I xs ex _ fun J G1 H1 I1 _ _ ok => ?_
  refine ⟨fun i n σ' H' => n + i = xs.length ∧ ∃ b G', forS (fun x b => (f x).bind fun c => k c b) (xs.drop i) b = some bz ∧ Ex G1 G' ∧ Sig K cl B G' H' (inv b) σ', ⟨xs.length, rfl, b0, G1, e, Ex.refl _, I1.weak hw⟩, ?_⟩
  rintro i n σ' H' ⟨hn, b, G', eb, eg, I'⟩
  by_cases hl : i < xs.length
  · have hx : xs[i]? = some xs[i] := List.getElem?_eq_getElem hl
    rw [drop_cons hx] at eb
    obtain ⟨b2, eb2, eb⟩ := bind_some eb
    obtain ⟨c, ec, eb2⟩ := bind_some eb2
    refine .inr ⟨ok.go i G' H' hl eg I'.nxt.gh, fun σ2 H2 => ∃ G2, Ex G1 G2 ∧ Sig K cl B G2 H2 (inv b2) σ2, fun σ2 H2 ⟨G2, g2, I2⟩ => ⟨n - 1, by omega, by omega, b2, G2, eb, g2, I2⟩, fun v H2 hy => ?_⟩
    obtain ⟨G2, nx, rv⟩ := ok.yld i _ G' H' v H2 hx eg I'.nxt.gh hy
    have I2 := I'.step nx
    refine hg B G2 H2 σ' _ I2 v _ c rv ec _ fun σ3 I3 => ?_
    exact hb c b ⟨G2, B.H⟩ G2 H2 σ3 I3.up b2 eb2 _ fun σ4 G4 H4 I4 => ⟨G4, (eg.trans nx.g).trans I4.nxt.g, I3.down I4⟩
  · refine .inl ⟨?_, ?_⟩
    · have e1 : i = xs.length := by omega
      rw [e1]; exact ok.stop G' H' eg I'.nxt.gh
    · rw [drop_end (by omega)] at eb
      cases eb
      exact q σ' G' H' I'
theorem fv_for {wi : TI} {g : TG} {mi : Option (List D)} {inv : β → List Sl} {out : γ → List Sl} {γ' : Type} {f : D → Option γ'} {st : γ' → List Sl → List Sl} {k : γ' → β → Option (Fl β β)} (b0 : β) (hi : IV K cl wi S mi S1) (hw : Weak S1 (inv b0)) (hg : GV K cl g f st)
    (hb : ∀ c b, FV K cl t (st c (inv b)) (k c b) inv inv) : FV K cl (tFor wi g t) S (mi.bind fun xs => forF (γ := γ) (fun x b => (f x).bind fun c => k c b) xs b0) inv out := fun B G H σ I bz e Dn q => by
  obtain ⟨xs, ex, e⟩ := bind_some e
  refine hi B G H σ I xs ex _ fun J G1 H1 I1 _ _ ok => ?_
  refine ⟨fun i n σ' H' => n + i = xs.length ∧ ∃ b G', forF (γ := γ) (fun x b => (f x).bind fun c => k c b) (xs.drop i) b = some bz ∧ Ex G1 G' ∧ Sig K cl B G' H' (inv b) σ', ⟨xs.length, rfl, b0, G1, e, Ex.refl _, I1.weak hw⟩, ?_⟩
  rintro i n σ' H' ⟨hn, b, G', eb, eg, I'⟩
  by_cases hl : i < xs.length
  · have hx : xs[i]? = some xs[i] := List.getElem?_eq_getElem hl
    rw [drop_cons hx] at eb
    obtain ⟨fl, efl, eb⟩ := bind_some eb
    obtain ⟨c, ec, efl⟩ := bind_some efl
    refine .inr ⟨ok.go i G' H' hl eg I'.nxt.gh, fun σ2 H2 => ∃ b2 G2, forF (γ := γ) (fun x b => (f x).bind fun c => k c b) (xs.drop (i + 1)) b2 = some bz ∧ Ex G1 G2 ∧ Sig K cl B G2 H2 (inv b2) σ2, fun σ2 H2 ⟨b2, G2, eb, g2, I2⟩ => ⟨n - 1, by omega, by omega, b2, G2, eb, g2, I2⟩, fun v H2 hy => ?_⟩
    obtain ⟨G2, nx, rv⟩ := ok.yld i _ G' H' v H2 hx eg I'.nxt.gh hy
    have I2 := I'.step nx
    refine hg B G2 H2 σ' _ I2 v _ c rv ec _ fun σ3 I3 => ?_
    refine hb c b ⟨G2, B.H⟩ G2 H2 σ3 I3.up fl efl _ ?_
    cases fl with
    | nx b2 => exact fun σ4 G4 H4 I4 => ⟨b2, G4, eb, (eg.trans nx.g).trans I4.nxt.g, I3.down I4⟩
    | ct b2 => exact fun σ4 G4 H4 I4 => ⟨b2, G4, eb, (eg.trans nx.g).trans I4.nxt.g, I3.down I4⟩
    | bk b2 =>
      cases eb
      exact fun σ4 G4 H4 I4 => q σ4 G4 H4 (I3.down I4)
    | rt d =>
      cases eb
      exact fun v G4 H4 n4 r4 => q v G4 H4 (I3.nxt.base n4) r4
  · refine .inl ⟨?_, ?_⟩
    · have e1 : i = xs.length := by omega
      rw [e1]; exact ok.stop G' H' eg I'.nxt.gh
    · rw [drop_end (by omega)] at eb
      cases eb
      exact q σ' G' H' I'
/-! ### what is walked -/
theorem iv_list (h : EV K cl te S m S1) : IV K cl (iList K te) S (m.bind asL) S1 := fun B G H σ I xs e R r => by
  obtain ⟨d, ed, e⟩ := bind_some e
  refine h B G H σ I d ed _ fun v G' H' I' g1 h1 rv => ?_
  have key : ∀ (a : Addr) (vs : List V), SqL K G' a vs → Reps K cl G' vs xs → ∃ a', V.ref a = V.ref a' ∧ (∃ ys, SqL K H' a' ys) ∧ R (Itl K a') H' := fun a vs hs rs => by
    refine ⟨a, rfl, ⟨vs, ex_l I'.nxt.gh hs⟩, r _ G' H' I' g1 h1 ⟨fun G2 H2 eg gh => ⟨vs, ex_l gh (ex_l eg hs), by rw [rs.length]; exact Nat.le_refl _⟩, fun i G2 H2 hi eg gh => ?_, fun i x G2 H2 v H3 hx eg gh hy => ?_⟩⟩
    · have hi' : i < vs.length := by rw [rs.length]; exact hi
      exact ⟨vs, vs[i], ex_l gh (ex_l eg hs), List.getElem?_eq_getElem hi'⟩
    · obtain ⟨e1, hy⟩ := hy
      subst e1
      obtain ⟨w, hw, rw'⟩ := rs.get hx
      have := hy vs (ex_l gh (ex_l eg hs))
      rw [hw] at this
      cases this
      exact ⟨G2, Nxt.refl gh, rw'.mono eg⟩
  cases rv with
  | lst hg rs => cases e; exact key _ _ (sq_of hg) rs
  | rol hg rs => cases e; exact key _ _ hg rs
  | _ => cases e
noncomputable def rngD (lo : Int) (n : Nat) : List D := (List.range n).map fun i => D.int (lo + (i : Nat))
noncomputable def dRng1 : D → Option (List D) | .int n => if -(2 ^ 62) ≤ n ∧ n < 2 ^ 62 then some (rngD 0 n.toNat) else none | _ => none
theorem it_rng (lo : Int) (n : Nat) (G : Hp) : ItOk K cl (Itr lo n) (rngD lo n) G := by
  have hl : (rngD lo n).length = n := by unfold rngD; rw [List.length_map, List.length_range]
  refine ⟨fun G' H' _ _ => by rw [hl]; exact Nat.le_refl _, fun i G' H' hi _ _ => by rw [hl] at hi; exact hi, fun i x G' H' v H'' hx _ gh hy => ?_⟩
  obtain ⟨e, e2⟩ := hy
  subst e e2
  have hi : i < n := by rw [← hl]; exact (List.getElem?_eq_some_iff.mp hx).1
  have hx2 : (rngD lo n)[i]? = some (D.int (lo + (i : Nat))) := by
    unfold rngD
    rw [List.getElem?_map, List.getElem?_range hi]
    rfl
  rw [hx] at hx2
  cases hx2
  exact ⟨G', Nxt.refl gh, .int⟩
theorem iv_rng1 (h : EV K cl te S m S1) : IV K cl (iRng1 (tCons te tNil)) S (m.bind dRng1) S1 := fun B G H σ I xs e R r => by
  obtain ⟨d, ed, e⟩ := bind_some e
  refine h B G H σ I d ed _ fun v G' H' I' g1 h1 rv => ?_
  cases rv with
  | int =>
    simp only [dRng1] at e
    split at e
    · rename_i i hi
      cases e
      exact ⟨i, rfl, hi.1, hi.2, r _ G' H' I' g1 h1 (it_rng _ _ _)⟩
    · cases e
  | _ => cases e
/-! ### comprehensions -/
noncomputable def compD (k : D → Option (Option D)) : List D → Option (List D)
  | [] => some []
  | x :: xs => (k x).bind fun o => (compD k xs).bind fun ys => some (match o with | some y => y :: ys | none => ys)
noncomputable def wipeS (S : List Sl) : List Nat → List Sl
  | [] => S
  | v :: vs => (wipeS S vs).set v .jk
theorem Sig.wipe {B : Bs} {G H : Hp} {σ : L2.St} (I : Sig K cl B G H S σ) : ∀ vs : List Nat, Sig K cl B G H (wipeS S vs) (L2.wipe σ vs)
  | [] => I
  | v :: vs => (Sig.wipe I vs).any v none
noncomputable def capD (xs : List D) : Option (List D) := if xs.length ≤ 90000 then some xs else none
noncomputable def noOw : List Sl → List Sl
  | [] => []
  | .ow _ _ :: S => .jk :: noOw S
  | s :: S => s :: noOw S
theorem noOw_get : ∀ {S : List Sl} {i : Nat} {s : Sl}, (noOw S)[i]? = some s → s = .jk ∨ (S[i]? = some s ∧ ∀ sh d, s ≠ .ow sh d)
  | [], _, _, h => by cases h
  | .ow sh d :: S, 0, s, h => .inl (by cases h; rfl)
  | .jk :: S, 0, s, h => .inl (by cases h; rfl)
  | .vl d :: S, 0, s, h => .inr (by cases h; exact ⟨rfl, fun _ _ z => nomatch z⟩)
  | .ow sh d :: S, i + 1, s, h => noOw_get (S := S) (i := i) h
  | .jk :: S, i + 1, s, h => noOw_get (S := S) (i := i) h
  | .vl d :: S, i + 1, s, h => noOw_get (S := S) (i := i) h
theorem noOw_len : ∀ S : List Sl, (noOw S).length = S.length
  | [] => rfl
  | .ow sh d :: S => congrArg (· + 1) (noOw_len S)
  | .jk :: S => congrArg (· + 1) (noOw_len S)
  | .vl d :: S => congrArg (· + 1) (noOw_len S)
/-- a state of its own base: what stands is not changed -/
theorem Sig.own {B : Bs} {G H : Hp} {σ : L2.St} (I : Sig K cl B G H S σ) : Sig K cl ⟨G, H⟩ G H (noOw S) σ := by
  have J := I.sub (noOw_len S) fun i s h => (noOw_get h).imp id fun z => z.1
  obtain ⟨A, hs, ap⟩ := J.slots
  refine ⟨Nxt.refl I.nxt.gh, J.len, J.tab, A, fun i s h => ?_, ap⟩
  obtain ⟨o, h1, h2⟩ := hs i s h
  refine ⟨o, h1, ?_⟩
  cases s with
  | jk => exact h2
  | vl d => exact h2
  | ow sh d =>
    rcases noOw_get h with z | ⟨_, n⟩
    · cases z
    · exact absurd rfl (n sh d)
theorem wipe_out2 {σ : L2.St} {j : Nat} : ∀ {vs : List Nat}, j ∉ vs → (L2.wipe σ vs)[j]? = σ[j]?
  | [], _ => rfl
  | v :: vs, h => by
    show ((L2.wipe σ vs).set v none)[j]? = _
    rw [List.getElem?_set_ne (fun e => h (by rw [e]; exact List.mem_cons_self))]
    exact wipe_out2 fun z => h (List.mem_cons_of_mem _ z)
theorem wipe_at {σ : L2.St} {j : Nat} (hl : j < σ.length) : ∀ {vs : List Nat}, j ∈ vs → (L2.wipe σ vs)[j]? = some none
  | v :: vs, h => by
    show ((L2.wipe σ vs).set v none)[j]? = _
    by_cases e : v = j
    · subst e
      rw [List.getElem?_set_self (by rw [L2.wipe_length]; exact hl)]
    · rw [List.getElem?_set_ne e]
      refine wipe_at hl ?_
      rcases List.mem_cons.mp h with h | h
      · exact absurd h.symm e
      · exact h
theorem wipe_congr {σ σ' : L2.St} {vs : List Nat} (hl : σ'.length = σ.length) (h : ∀ j, j ∉ vs → σ'[j]? = σ[j]?) : L2.wipe σ' vs = L2.wipe σ vs := by
  apply List.ext_getElem?
  intro j
  by_cases hj : j ∈ vs
  · by_cases hk : j < σ.length
    · rw [wipe_at hk hj, wipe_at (by rw [hl]; exact hk) hj]
    · rw [List.getElem?_eq_none (by rw [L2.wipe_length]; omega), List.getElem?_eq_none (by rw [L2.wipe_length]; omega)]
  · rw [wipe_out2 hj, wipe_out2 hj, h j hj]
/-- a target that stores at vs alone -/
noncomputable def GW (g : TG) (vs : List Nat) : Prop := ∀ (v : V) (σ : L2.St) (H : Hp) (Q Q' : L2.St → Hp → Prop), g v σ H Q → (∀ σ' H', (∀ j, j ∉ vs → σ'[j]? = σ[j]?) → σ'.length = σ.length → Q σ' H' → Q' σ' H') → g v σ H Q'
theorem gw_name {i : Nat} {vs : List Nat} (h : i ∈ vs) : GW (gName i) vs := fun v σ H Q Q' q k => k _ _ (fun j hj => by rw [List.getElem?_set_ne (fun e => hj (by rw [← e]; exact h))]) List.length_set q
noncomputable def cut (H : Hp) (p : Addr) : Hp := fun b => if b = p then none else H b
theorem cut_upd {H : Hp} {p : Addr} {o : HO} (h : H p = some o) : H = upd (cut H p) p o := by
  funext b
  unfold upd cut
  by_cases hb : b = p
  · subst hb; simp [h]
  · simp [hb]
theorem ex_cut {A H : Hp} {p : Addr} (e : Ex A H) (n : A p = none) : Ex A (cut H p) := fun a u h => by
  have : a ≠ p := fun z => by rw [z, n] at h; cases h
  show (if a = p then none else H a) = _
  rw [if_neg this]
  exact e a u h
theorem ex2_cut {A H : Hp} {p : Addr} (e : Ex2 A H) (n : A p = none) : Ex2 A (cut H p) := ⟨fun a u _ h => by
  have : a ≠ p := fun z => by rw [z, n] at h; cases h
  show (if a = p then none else H a) = _
  rw [if_neg this]
  exact e a u h, fun a ps h => by
  have : a ≠ p := fun z => by rw [z, n] at h; cases h
  obtain ⟨ps', e', g⟩ := e.b a ps h
  refine ⟨ps', ?_, g⟩
  show (if a = p then none else H a) = _
  rw [if_neg this]
  exact e'⟩
theorem evn_lc {wi : TI} {g : TG} {mi : Option (List D)} {vs : List Nat} {γ' : Type} {f : D → Option γ'} {st : γ' → List Sl → List Sl} {kt : γ' → Option Bool} {ke : γ' → Option D} {S3 S4 : γ' → List Sl} (hi : IV K cl wi S mi S1) (hg : GV K cl g f st) (hw : GW g vs)
    (ht : ∀ c, ET K cl tt (st c (noOw (wipeS S1 vs))) (kt c) (S3 c)) (he : ∀ c, EV K cl te (S3 c) (ke c) (S4 c)) :
    EVN K cl (tLc wi g tt te vs) S (mi.bind fun xs => (capD xs).bind fun xs => (compD (fun x => (f x).bind fun c => (kt c).bind fun b => if b = true then (ke c).map some else some none) xs).map .lst) S1 := fun B G H σ I d e Q q => by
  obtain ⟨xs0, ex, e⟩ := bind_some e
  obtain ⟨xs, ec, e⟩ := bind_some e
  obtain ⟨ys, ey, rfl⟩ := Option.map_eq_some_iff.mp e
  unfold capD at ec
  split at ec
  · rename_i hcap
    cases ec
    refine hi B G H σ I xs0 ex _ fun J G1 H1 I1 g1 h1 ok => fun Dl hD => ?_
    refine ⟨fun i n H' => n + i = xs0.length ∧ ∃ av ad rest G', compD (fun x => (f x).bind fun c => (kt c).bind fun b => if b = true then (ke c).map some else some none) (xs0.drop i) = some rest ∧ ad ++ rest = ys ∧ Nxt G1 H1 G' H' ∧ H' Dl = some (.lst av) ∧ G' Dl = none ∧ Reps K cl G' av ad ∧ ad.length ≤ i,
      ⟨xs0.length, rfl, [], [], ys, G1, ey, rfl, Nxt.lay I1.nxt.gh hD, upd_same, fresh_back I1.nxt.gh hD, .nil, Nat.le_refl _⟩, ?_⟩
    rintro i n H' ⟨hn, av, ad, rest, G', er, ea, n1, hd, gd, rs, hl⟩
    have I' := I1.step n1
    have eg := n1.g
    by_cases hi : i < xs0.length
    · have hx : xs0[i]? = some xs0[i] := List.getElem?_eq_getElem hi
      rw [drop_cons hx] at er
      obtain ⟨o, eo, er⟩ := bind_some er
      obtain ⟨rest2, er2, er⟩ := bind_some er
      obtain ⟨c, efc, eo⟩ := bind_some eo
      obtain ⟨b, eb, eo⟩ := bind_some eo
      refine .inr ⟨ok.go i G' H' hi eg I'.nxt.gh, fun H2 => ∃ av ad G2, ad ++ rest2 = ys ∧ Nxt G1 H1 G2 H2 ∧ H2 Dl = some (.lst av) ∧ G2 Dl = none ∧ Reps K cl G2 av ad ∧ ad.length ≤ i + 1,
        fun H2 ⟨av, ad, G2, k1, k2, k5, k6, k7, k8⟩ => ⟨n - 1, by omega, by omega, av, ad, rest2, G2, er2, k1, k2, k5, k6, k7, k8⟩, fun v H2 hy => ?_⟩
      obtain ⟨G2, nx, rv⟩ := ok.yld i _ G' H' v H2 hx eg I'.nxt.gh hy
      have I2 := I'.step nx
      have IW := (I2.wipe vs).own
      refine hw v (L2.wipe σ vs) H2 (fun σ3 H3 => Sig K cl ⟨G2, H2⟩ G2 H2 (st c (noOw (wipeS S1 vs))) σ3 ∧ H3 = H2) _ (hg ⟨G2, H2⟩ G2 H2 (L2.wipe σ vs) _ IW v _ c rv efc _ fun σ3 I3 => ⟨I3, rfl⟩) fun σ3 H3 hj hlen ⟨I3, e3⟩ => ?_
      subst e3
      refine ⟨(wipe_congr hlen hj).trans (wipe_congr (by rw [L2.wipe_length]) fun j hj => wipe_out2 hj), ?_⟩
      refine ht c ⟨G2, H3⟩ G2 H3 σ3 I3 b eb _ fun G4 H4 I4 g4 h4 => ?_
      have n4 : Nxt G' H' G4 H4 := nx.trans I4.nxt
      have keep : ∀ {G5 H5}, Nxt G' H' G5 H5 → H5 Dl = some (.lst av) ∧ G5 Dl = none := fun {G5 H5} n5 => by
        refine ⟨n5.h _ _ hd, ?_⟩
        cases q5 : G5 Dl with
        | none => rfl
        | some u =>
          rcases n5.fr Dl (by rw [q5]; simp) with h | h
          · exact absurd gd h
          · rw [hd] at h; cases h
      cases b with
      | true =>
        obtain ⟨y, ey2, eo⟩ := Option.map_eq_some_iff.mp eo
        subst eo
        cases er
        show te σ3 H4 fun y H5 => ∃ acc, H5 Dl = some (.lst acc) ∧ acc.length < sizeLine ∧ _
        refine he c ⟨G2, H3⟩ G4 H4 σ3 I4 y ey2 _ fun w G5 H5 I5 g5 h5 rw5 => ?_
        have n5 : Nxt G' H' G5 H5 := nx.trans I5.nxt
        obtain ⟨k1, k2⟩ := keep n5
        exact ⟨av, k1, sz_lt (by rw [rs.length]; omega), av ++ [w], ad ++ [y], G5, by rw [List.append_assoc]; exact ea, (n1.trans n5).mut hD k2, upd_same, k2, (rs.mono n5.g).append (.cons rw5 .nil), by rw [List.length_append]; exact Nat.succ_le_succ hl⟩
      | false =>
        cases eo
        cases er
        obtain ⟨k1, k2⟩ := keep n4
        exact ⟨av, ad, G4, ea, n1.trans n4, k1, k2, rs.mono n4.g, Nat.le_succ_of_le hl⟩
    · refine .inl ⟨?_, ?_⟩
      · have e1 : i = xs0.length := by omega
        rw [e1]; exact ok.stop G' H' eg I'.nxt.gh
      · rw [drop_end (by omega)] at er
        cases er
        rw [List.append_nil] at ea
        subst ea
        -- the list, taken out of the heap and laid again
        have eH : H' = upd (cut H' Dl) Dl (.lst av) := cut_upd hd
        rw [eH]
        exact q Dl av ad G' _ (I1.step ⟨n1.g, ex2_cut n1.h hD, ex_cut n1.gh gd, n1.fr⟩) (g1.trans eg) (h1.trans (ex2_cut n1.h hD)) rfl (if_pos rfl) rs
  · cases ec
/-- a comprehension of new lists: all of it is owned -/
theorem evo_lc {wi : TI} {g : TG} {mi : Option (List D)} {vs : List Nat} {γ' : Type} {f : D → Option γ'} {st : γ' → List Sl → List Sl} {kt : γ' → Option Bool} {ke : γ' → Option D} {S3 S4 : γ' → List Sl} (hi : IV K cl wi S mi S1) (hg : GV K cl g f st) (hw : GW g vs)
    (ht : ∀ c, ET K cl tt (st c (noOw (wipeS S1 vs))) (kt c) (S3 c)) (he : ∀ c, EVN K cl te (S3 c) (ke c) (S4 c)) :
    EVO K cl (.l (.l .v)) (tLc wi g tt te vs) S (mi.bind fun xs => (capD xs).bind fun xs => (compD (fun x => (f x).bind fun c => (kt c).bind fun b => if b = true then (ke c).map some else some none) xs).map .lst) S1 := fun B G H σ I d e Q q => by
  obtain ⟨xs0, ex, e⟩ := bind_some e
  obtain ⟨xs, ec, e⟩ := bind_some e
  obtain ⟨ys, ey, rfl⟩ := Option.map_eq_some_iff.mp e
  unfold capD at ec
  split at ec
  · rename_i hcap
    cases ec
    refine hi B G H σ I xs0 ex _ fun J G1 H1 I1 g1 h1 ok => fun Dl hD => ?_
    refine ⟨fun i n H' => n + i = xs0.length ∧ ∃ av ad A rest G', compD (fun x => (f x).bind fun c => (kt c).bind fun b => if b = true then (ke c).map some else some none) (xs0.drop i) = some rest ∧ ad ++ rest = ys ∧ Nxt G1 H1 G' H' ∧ H' Dl = some (.lst av) ∧ G' Dl = none ∧ OwnL (Own K cl G' H' (.l .v)) av ad A ∧ A.Nodup ∧ (∀ p ∈ A, H1 p = none ∧ G' p = none ∧ p ≠ Dl) ∧ ad.length ≤ i,
      ⟨xs0.length, rfl, [], [], [], ys, G1, ey, rfl, Nxt.lay I1.nxt.gh hD, upd_same, fresh_back I1.nxt.gh hD, .nil, .nil, (fun p hp => nomatch hp), Nat.le_refl _⟩, ?_⟩
    rintro i n H' ⟨hn, av, ad, A, rest, G', er, ea, n1, hd, gd, rs, nd, out, hl⟩
    have I' := I1.step n1
    have eg := n1.g
    by_cases hi : i < xs0.length
    · have hx : xs0[i]? = some xs0[i] := List.getElem?_eq_getElem hi
      rw [drop_cons hx] at er
      obtain ⟨o, eo, er⟩ := bind_some er
      obtain ⟨rest2, er2, er⟩ := bind_some er
      obtain ⟨c, efc, eo⟩ := bind_some eo
      obtain ⟨b, eb, eo⟩ := bind_some eo
      refine .inr ⟨ok.go i G' H' hi eg I'.nxt.gh, fun H2 => ∃ av ad A G2, ad ++ rest2 = ys ∧ Nxt G1 H1 G2 H2 ∧ H2 Dl = some (.lst av) ∧ G2 Dl = none ∧ OwnL (Own K cl G2 H2 (.l .v)) av ad A ∧ A.Nodup ∧ (∀ p ∈ A, H1 p = none ∧ G2 p = none ∧ p ≠ Dl) ∧ ad.length ≤ i + 1,
        fun H2 ⟨av, ad, A, G2, k1, k2, k5, k6, k7, k8, k9, k10⟩ => ⟨n - 1, by omega, by omega, av, ad, A, rest2, G2, er2, k1, k2, k5, k6, k7, k8, k9, k10⟩, fun v H2 hy => ?_⟩
      obtain ⟨G2, nx, rv⟩ := ok.yld i _ G' H' v H2 hx eg I'.nxt.gh hy
      have I2 := I'.step nx
      have IW := (I2.wipe vs).own
      refine hw v (L2.wipe σ vs) H2 (fun σ3 H3 => Sig K cl ⟨G2, H2⟩ G2 H2 (st c (noOw (wipeS S1 vs))) σ3 ∧ H3 = H2) _ (hg ⟨G2, H2⟩ G2 H2 (L2.wipe σ vs) _ IW v _ c rv efc _ fun σ3 I3 => ⟨I3, rfl⟩) fun σ3 H3 hj hlen ⟨I3, e3⟩ => ?_
      subst e3
      refine ⟨(wipe_congr hlen hj).trans (wipe_congr (by rw [L2.wipe_length]) fun j hj => wipe_out2 hj), ?_⟩
      refine ht c ⟨G2, H3⟩ G2 H3 σ3 I3 b eb _ fun G4 H4 I4 g4 h4 => ?_
      have n4 : Nxt G' H' G4 H4 := nx.trans I4.nxt
      have inH : ∀ p ∈ A, H' p ≠ none := rs.inH fun v d A2 r => r.inH
      have keep0 : ∀ {G5 H5}, Nxt G' H' G5 H5 → ∀ p, G' p = none → H' p ≠ none → G5 p = none := fun {G5 H5} n5 p h0 h2 => by
        cases q5 : G5 p with
        | none => rfl
        | some u =>
          rcases n5.fr p (by rw [q5]; simp) with h | h
          · exact absurd h0 h
          · exact absurd h h2
      have keep : ∀ {G5 H5}, Nxt G' H' G5 H5 → H5 Dl = some (.lst av) ∧ G5 Dl = none ∧ OwnL (Own K cl G5 H5 (.l .v)) av ad A ∧ ∀ p ∈ A, H1 p = none ∧ G5 p = none ∧ p ≠ Dl := fun {G5 H5} n5 => by
        refine ⟨n5.h _ _ hd, keep0 n5 _ gd (by rw [hd]; exact fun z => nomatch z), rs.imp fun v d A2 _ r => r.step n5.g fun p _ u _ hu => n5.h _ _ hu, fun p hp => ⟨(out p hp).1, keep0 n5 p (out p hp).2.1 (inH p hp), (out p hp).2.2⟩⟩
      cases b with
      | true =>
        obtain ⟨y, ey2, eo⟩ := Option.map_eq_some_iff.mp eo
        subst eo
        cases er
        show te σ3 H4 fun y H5 => ∃ acc, H5 Dl = some (.lst acc) ∧ acc.length < sizeLine ∧ _
        refine he c ⟨G2, H3⟩ G4 H4 σ3 I4 y ey2 _ fun pw vw xw G5 H5 I5 g5 h5 exw hpw rww => ?_
        subst exw
        have n5 : Nxt G' H' G5 H5 := nx.trans I5.nxt
        have n6 : Nxt G' H' G5 (upd H5 pw (.lst vw)) := n5.trans (Nxt.lay I5.nxt.gh hpw)
        obtain ⟨k1, k2, k3, k4⟩ := keep n6
        have npD : pw ≠ Dl := fun z => by rw [z, (keep n5).1] at hpw; cases hpw
        have inH5 : ∀ p ∈ A, p ≠ pw := fun p hp z => by
          have := ((keep n5).2.2.1).inH (fun v d A2 r => r.inH) p hp
          rw [z] at this; exact this hpw
        have ap : ∀ {vs : List V} {ds : List D} {A2 : List Addr} {v : V} {d : D} {A3 : List Addr} {R : V → D → List Addr → Prop}, OwnL R vs ds A2 → R v d A3 → OwnL R (vs ++ [v]) (ds ++ [d]) (A2 ++ A3) := fun {vs ds A2 v d A3 R} h r => by
          induction h with
          | nil => have := OwnL.cons r (OwnL.nil (R := R)); rw [List.append_nil] at this; exact this
          | cons r0 t ih => rw [List.append_assoc]; exact OwnL.cons r0 ih
        have offD : ∀ p : Addr, p ≠ Dl → ∀ u o, (upd H5 pw (.lst vw)) p = some u → (upd (upd H5 pw (.lst vw)) Dl o) p = some u := fun p h u o e => by rw [upd_ne h]; exact e
        refine ⟨av, k1, sz_lt (by rw [rs.len]; omega), av ++ [.ref pw], ad ++ [.lst xw], A ++ [pw], G5, by rw [List.append_assoc]; exact ea, (n1.trans n6).mut hD k2, upd_same, k2, ?_, ?_, fun p hp => ?_, by rw [List.length_append]; exact Nat.succ_le_succ hl⟩
        · refine ap (k3.imp fun v d A2 s r => r.step (Ex.refl _) fun p hp u _ hu => offD p (k4 p (s hp)).2.2 u _ hu) ?_
          exact Own.mkFlat (by rw [upd_ne npD, upd_same]) rww
        · rw [List.nodup_append]
          exact ⟨nd, by simp, fun a ha b hb => by rw [List.mem_singleton.mp hb]; exact inH5 a ha⟩
        · rcases List.mem_append.mp hp with h | h
          · exact k4 p h
          · rw [List.mem_singleton.mp h]
            exact ⟨(n1.h.trans n5.h).back hpw, fresh_back I5.nxt.gh hpw, npD⟩
      | false =>
        cases eo
        cases er
        obtain ⟨k1, k2, k3, k4⟩ := keep n4
        exact ⟨av, ad, A, G4, ea, n1.trans n4, k1, k2, k3, nd, k4, Nat.le_succ_of_le hl⟩
    · refine .inl ⟨?_, ?_⟩
      · have e1 : i = xs0.length := by omega
        rw [e1]; exact ok.stop G' H' eg I'.nxt.gh
      · rw [drop_end (by omega)] at er
        cases er
        rw [List.append_nil] at ea
        subst ea
        refine q (.ref Dl) G' H' (I1.push n1 (A0 := Dl :: A) ⟨Dl, av, ad, A, rfl, rfl, hd, rfl, rs⟩ ?_ fun p hp => ?_) (g1.trans eg) (h1.trans n1.h)
        · rw [List.nodup_cons]
          exact ⟨fun z => (out Dl z).2.2 rfl, nd⟩
        · rcases List.mem_cons.mp hp with h | h
          · rw [h]; exact ⟨hD, gd⟩
          · exact ⟨(out p h).1, (out p h).2.1⟩
  · cases ec
end
end Oh
namespace Oh
open PySem PySem.Spec PyProof.Rows L2 Evl

section
variable {K : PySem.W.Frag} {cl : Cl} {S S1 S2 : List Sl} {te ta tb tc : TE} {m n : Option D}
/-! ### slices, bits -/
noncomputable def optI (m : Option D) : Option (Option Int) := m.bind fun d => (asI d).map some
noncomputable def EO (to : TO) (S : List Sl) (m : Option (Option Int)) (S' : List Sl) (K : PySem.W.Frag) (cl : Cl) : Prop := ∀ (B : Bs) (G H : Hp) (σ : L2.St), Sig K cl B G H S σ → ∀ o, m = some o → ∀ Q : Option Int → Hp → Prop,
  (∀ G' H', Sig K cl B G' H' S' σ → Ex G G' → Ex2 H H' → Q o H') → to σ H Q
theorem eo_no : EO tNoPart S (some none) S K cl := fun B G H σ I o e Q q => by cases e; exact q G H I (Ex.refl _) (Ex2.refl _)
theorem eo_so (h : EV K cl te S m S1) : EO (tPart te) S (optI m) S1 K cl := fun B G H σ I o e Q q => by
  obtain ⟨d, ed, e⟩ := bind_some e
  obtain ⟨i, ei, rfl⟩ := Option.map_eq_some_iff.mp e
  refine h B G H σ I d ed _ fun v G' H' I' g1 h1 rv => ?_
  cases rv with
  | int => cases ei; exact ⟨_, rfl, q G' H' I' g1 h1⟩
  | _ => cases ei
noncomputable def dSl (d : D) (lo hi : Option Int) : Option D := match d with | .lst xs => some (.lst (cutD xs lo hi)) | .rol xs => some (.lst (cutD xs lo hi)) | _ => none
theorem cut_reps {G : Hp} {vs : List V} {ds : List D} {lo hi : Option Int} (r : Reps K cl G vs ds) : Reps K cl G (cutV vs lo hi) (cutD ds lo hi) := by
  unfold cutV cutD
  rw [r.length]
  exact (r.drop _).take _
theorem evn_sl {tl th : TO} {ml mh : Option (Option Int)} {S3 : List Sl} (h : EV K cl te S m S1) (h1 : EO tl S1 ml S2 K cl) (h2 : EO th S2 mh S3 K cl) : EVN K cl (tSl (rSlL K) te tl th) S (m.bind fun d => ml.bind fun lo => mh.bind fun hi => dSl d lo hi) S3 := fun B G H σ I z e Q q => by
  obtain ⟨d, ed, e⟩ := bind_some e
  obtain ⟨lo, el, e⟩ := bind_some e
  obtain ⟨hi, eh, e⟩ := bind_some e
  refine h B G H σ I d ed _ fun v G1 H1 I1 g1 h1' rv => ?_
  refine h1 B G1 H1 σ I1 lo el _ fun G2 H2 I2 g2 h2' => ?_
  refine h2 B G2 H2 σ I2 hi eh _ fun G3 H3 I3 g3 h3' => ?_
  cases rv with
  | lst hg rs => cases e; exact ⟨_, _, rfl, sq_of ((h2'.trans h3') _ _ (I1.nxt.gh _ _ hg)), fun p hp => q p _ _ G3 H3 I3 ((g1.trans g2).trans g3) ((h1'.trans h2').trans h3') rfl hp (cut_reps (rs.mono (g2.trans g3)))⟩
  | rol hg rs => cases e; exact ⟨_, _, rfl, ex2_l (h2'.trans h3') (ex_l I1.nxt.gh hg), fun p hp => q p _ _ G3 H3 I3 ((g1.trans g2).trans g3) ((h1'.trans h2').trans h3') rfl hp (cut_reps (rs.mono (g2.trans g3)))⟩
  | _ => cases e
theorem et_yes : ET K cl tYes S (some true) S := fun B G H σ I b e Q q => by cases e; exact q G H I (Ex.refl _) (Ex2.refl _)
/-- every owned list at i is given away first -/
theorem ev_pre {i : Nat} {sh : Sh} {d : D} (h : S[i]? = some (.ow sh d)) (he : EV K cl te (S.set i (.vl d)) m S1) : EV K cl te S m S1 := fun B G H σ I z e Q q => by
  obtain ⟨_, G1, _, g1, _, I1⟩ := I.share h
  exact he B G1 H σ I1 z e Q fun v G2 H2 I2 g2 h2 rv => q v G2 H2 I2 (g1.trans g2) h2 rv
/-! ### defs -/
noncomputable def spD (K : PySem.W.Frag) (cl : Cl) (f : List D → Option D) : Sp := fun vs H Q _ => ∃ G ds d, Ex G H ∧ (∀ a ∈ cl.t, GxR.TabG H a ∧ G a = none) ∧ Reps K cl G vs ds ∧ f ds = some d ∧ ∀ v G' H', Nxt G H G' H' → Rep K cl G' v d → Q v H'
theorem ev_call {f : List D → Option D} {ts : TA} {ms : Option (List D)} {E : XK} (ha : EA K cl ts S ms S1) : EV K cl (tCall (spD K cl f) [] E ts) S (ms.bind f) S1 := fun B G H σ I z e Q q => by
  obtain ⟨ds, eds, e⟩ := bind_some e
  refine ha B G H σ I ds eds _ fun vs G1 H1 I1 g1 h1 rs => ?_
  refine ⟨G1, ds, z, I1.nxt.gh, I1.tab, by rw [List.append_nil]; exact rs, e, fun v G' H' nx r => ?_⟩
  exact q v G' H' (I1.step nx) (g1.trans nx.g) (h1.trans nx.h) r
structure Con (P : Program) (w : World) (K : PySem.W.Frag) (cl : Cl) (mg : Str → Option Value) (base : Heap) (k : Nat) (x : Str) (f : List D → Option D) (fa : Addr) (fd : FuncData) (ps : List Str) : Prop where
  ok : FnOk P w K mg base CX0 k fa fd ps (spD K cl f)
  mg : mg x = some (.ref fa)
  kp : PySem.W.keepIn K (.ref fa) = true
  bd : Binds K fd ps []
theorem con_none {P : Program} {w : World} {mg : Str → Option Value} {base : Heap} {k : Nat} {f : List D → Option D} {fa : Addr} {fd : FuncData} {ps : List Str} (no : ∀ ds d, f ds = some d → False) : FnOk P w K mg base CX0 k fa fd ps (spD K cl f) :=
  ⟨fun vs H Q E h => by obtain ⟨G, ds, d, _, _, _, e, _⟩ := h; exact (no _ _ e).elim, fun A outer s H args us vs Q E _ _ _ _ h => by obtain ⟨G, ds, d, _, _, _, e, _⟩ := h; exact (no _ _ e).elim⟩
theorem slot_start {ds : List D} {vs : List V} {G : Hp} {k : Nat} (r : Reps K cl G vs ds) {i : Nat} {s : Sl} (h : (ds.map Sl.vl ++ List.replicate k Sl.jk)[i]? = some s) :
    ∃ o, (vs.map some ++ List.replicate k none)[i]? = some o ∧ (s = .jk ∨ ∃ v d, s = .vl d ∧ o = some v ∧ Rep K cl G v d) := by
  have hl := r.length
  by_cases hi : i < ds.length
  · rw [List.getElem?_append_left (by rw [List.length_map]; exact hi), List.getElem?_map] at h
    rw [List.getElem?_append_left (by rw [List.length_map, hl]; exact hi), List.getElem?_map]
    obtain ⟨d, hd, rfl⟩ := Option.map_eq_some_iff.mp h
    obtain ⟨v, hv, rv⟩ := r.get hd
    exact ⟨some v, by rw [hv]; rfl, .inr ⟨v, d, rfl, rfl, rv⟩⟩
  · rw [List.getElem?_append_right (by rw [List.length_map]; omega), List.length_map, List.getElem?_replicate] at h
    rw [List.getElem?_append_right (by rw [List.length_map]; omega), List.length_map, List.getElem?_replicate, hl]
    split at h
    · rename_i hk
      cases h
      exact ⟨none, if_pos hk, .inl rfl⟩
    · cases h
theorem fun_con {P : Program} {w : World} {mg : Str → Option Value} {base : Heap} {x qual : Str} {st : Stmt} {fa : Addr} {fd : FuncData} {N ps : List Str} {k n : Nat} {f : List D → Option D}
    (F : Fun K x qual st fa fd) (SC : FnScope N ps (defScope st)) (hn : ps.length = n) (ar : ∀ ds d, f ds = some d → ds.length = n) (hm : mg x = some (.ref fa)) (hb : Binds K fd ps [])
    (body : ∀ (cdv : Value) (A : Around) (outer : List Env) (s : Shared) (H : Hp) (E : XK), Room k (A.deeper (envOfC qual (defScope st) s.heap.objs.size fa cdv)) →
      ∃ t, PSs (cxOf CX0 P w K mg base N qual (defScope st) fa cdv A outer s H E).nox (defBody st) t ∧ ∀ ds : List D, ds.length = n → TV K cl t (ds.map .vl ++ List.replicate (N.length - n) .jk) true (f ds)) : Con P w K cl mg base (k + 1) x f fa fd ps := by
  refine ⟨F.ok SC (fun vs H Q E h => ?_) (fun cdv A outer s H vs Q E hr h => ?_), hm, F.kp, hb⟩
  · obtain ⟨G, ds, d, _, _, rs, e, _⟩ := h
    rw [rs.length, ar ds d e, hn]
  · obtain ⟨G, ds, d, gh, tb, rs, e, q⟩ := h
    obtain ⟨t, hp, ht⟩ := body cdv A outer s H E hr
    have hl := ar ds d e
    have hv : vs.length = n := rs.length.trans hl
    refine ⟨t, hp, ?_⟩
    have e0 : L2.start N vs = vs.map some ++ List.replicate (N.length - n) none := by unfold L2.start; rw [hv]
    rw [e0]
    refine ht ds hl ⟨G, H⟩ G H _ ⟨Nxt.refl gh, by simp [rs.length], tb, fun _ => [], fun i s hs => ?_, fun _ _ _ _ _ _ z => nomatch z⟩ d e _ (fun v G' H' nx r => q v G' H' nx r) (fun _ hd σ' G' H' nx => ?_)
    · obtain ⟨o, h1, h2⟩ := slot_start rs hs
      refine ⟨o, h1, ?_⟩
      rcases h2 with rfl | ⟨v, d', rfl, rfl, rv⟩
      · rfl
      · exact ⟨rfl, v, rfl, rv⟩
    · subst hd
      exact q .non G' H' nx .non
/-! ### the law -/
noncomputable def spLaw (K : PySem.W.Frag) (t : List Addr) : Sp := fun vs H Q _ => ∃ (a : Addr) (ns : List Int), vs = [.ref a] ∧ (∀ b ∈ t, GxR.TabG H b) ∧ SqL K H a (ns.map V.int) ∧ ns.length ≤ 63 ∧ ∀ H', Q (.bl true) H'
theorem reps_ints {G : Hp} : ∀ ns : List Int, Reps K cl G (ns.map V.int) (ns.map D.int)
  | [] => .nil
  | _ :: ns => .cons .int (reps_ints ns)
theorem law_ok {P : Program} {w : World} {mg : Str → Option Value} {base : Heap} {k : Nat} {fa : Addr} {fd : FuncData} {x : Str} {f : D → Option D} (C : FnOk P w K mg base CX0 k fa fd [x] (spD K cl (on1 f)))
    (h : ∀ ns : List Int, ns.length ≤ 63 → f (.rol (ns.map D.int)) = some (.bl true)) : FnOk P w K mg base CX0 k fa fd [x] (spLaw K cl.t) := by
  refine C.imp (fun vs H Q E q => ?_)
  obtain ⟨a, ns, rfl, ht, hs, hl, q⟩ := q
  have tn : ∀ b ∈ cl.t, ∀ u, H b = some u → ∃ ps, u = .tbl ps := fun b hb u e => by
    obtain ⟨ps, e2, _⟩ := ht b hb
    rw [e] at e2; cases e2; exact ⟨ps, rfl⟩
  have hs2 : SqL K (fun b => if b ∈ cl.t then none else H b) a (ns.map V.int) := by
    have off : ∀ u, H a = some u → (∀ ps, u ≠ .tbl ps) → (fun b => if b ∈ cl.t then none else H b) a = some u := fun u e n => by
      show (if a ∈ cl.t then none else H a) = _
      rw [if_neg fun z => by obtain ⟨ps, rfl⟩ := tn a z u e; exact n ps rfl]
      exact e
    rcases hs with (e | ⟨o, e⟩) | e
    · exact .inl (.inl (off _ e fun _ z => nomatch z))
    · exact .inl (.inr ⟨o, off _ e fun _ z => nomatch z⟩)
    · exact .inr e
  refine ⟨_, [.rol (ns.map D.int)], .bl true, fun b u e => ?_, fun b hb => ⟨ht b hb, if_pos hb⟩, .cons (.rol hs2 (reps_ints ns)) .nil, h ns hl, fun v G' H' nx r => ?_⟩
  · by_cases z : b ∈ cl.t
    · rw [if_pos z] at e; cases e
    · rw [if_neg z] at e; exact e
  · cases r
    exact q H'
theorem ar1 {f : D → Option D} : ∀ ds d, on1 f ds = some d → ds.length = 1 := fun ds d h => by
  unfold on1 at h; split at h
  · rfl
  · cases h
theorem ar2 {f : D → D → Option D} : ∀ ds d, on2 f ds = some d → ds.length = 2 := fun ds d h => by
  unfold on2 at h; split at h
  · rfl
  · cases h
theorem ar3 {f : D → D → D → Option D} : ∀ ds d, on3 f ds = some d → ds.length = 3 := fun ds d h => by
  unfold on3 at h; split at h
  · rfl
  · cases h
theorem ar0 {m : Option D} : ∀ ds d, on0 m ds = some d → ds.length = 0 := fun ds d h => by
  unfold on0 at h; split at h
  · rfl
  · cases h
/-- a def for its arguments, one by one -/
theorem all1 {t : TS} {k : Nat} {f : D → Option D} (h : ∀ a, TV K cl t (.vl a :: List.replicate k .jk) true (f a)) : ∀ ds : List D, ds.length = 1 → TV K cl t (ds.map .vl ++ List.replicate k .jk) true (on1 f ds)
  | [a], _ => h a
theorem all2 {t : TS} {k : Nat} {f : D → D → Option D} (h : ∀ a b, TV K cl t (.vl a :: .vl b :: List.replicate k .jk) true (f a b)) : ∀ ds : List D, ds.length = 2 → TV K cl t (ds.map .vl ++ List.replicate k .jk) true (on2 f ds)
  | [a, b], _ => h a b
theorem all3 {t : TS} {k : Nat} {f : D → D → D → Option D} (h : ∀ a b c, TV K cl t (.vl a :: .vl b :: .vl c :: List.replicate k .jk) true (f a b c)) : ∀ ds : List D, ds.length = 3 → TV K cl t (ds.map .vl ++ List.replicate k .jk) true (on3 f ds)
  | [a, b, c], _ => h a b c
theorem all0 {t : TS} {k : Nat} {m : Option D} (h : TV K cl t (List.replicate k .jk) true m) : ∀ ds : List D, ds.length = 0 → TV K cl t (ds.map .vl ++ List.replicate k .jk) true (on0 m ds)
  | [], _ => h
end
end Oh
namespace Oh
open PySem PySem.Spec PyProof.Rows L2 Evl

/-! ### plain functions: objects, dicts, lists -/
noncomputable def dFld (c : Nat) (f : Str) : D → Option D | .ob c' fs => if c' = c then fs.lookup f else none | _ => none
noncomputable def putD (f : Str) (v : D) : List (Str × D) → List (Str × D)
  | [] => [(f, v)]
  | (g, x) :: r => if g = f then (g, v) :: r else (g, x) :: putD f v r
noncomputable def dStF (c : Nat) (f : Str) (x y : D) : Option D := match x with | .ob c' fs => if c' = c ∧ fs.length < 1000 then some (.ob c' (putD f y fs)) else none | _ => none
noncomputable def putKD (kvs : List (Key × D)) (k : Key) (v : D) : List (Key × D) :=
  if (kvs.any fun kv => decide (kv.1 = k)) = true then kvs.map (fun kv => if kv.1 = k then (kv.1, v) else kv) else kvs ++ [(k, v)]
noncomputable def flatB : D → Bool | .non => true | .bl _ => true | .int _ => true | .str _ => true | _ => false
noncomputable def eqFl : D → D → Bool
  | .non, .non => true
  | .bl a, .bl b => a == b
  | .bl a, .int b => (if a then 1 else 0) == b
  | .int a, .bl b => a == (if b then 1 else 0)
  | .int a, .int b => a == b
  | .str a, .str b => a == b
  | _, _ => false
noncomputable def asLT : D → Option (List D) | .lst xs => some xs | .rol xs => some xs | .tup xs => some xs | _ => none
noncomputable def dInB (x y : D) : Option Bool := (asLT y).bind fun ys => if flatB x = true ∧ ys.all flatB = true then some (ys.any fun y => eqFl y x) else none
noncomputable def dIn (x y : D) : Option D := (dInB x y).map .bl
noncomputable def dNin (x y : D) : Option D := (dInB x y).map fun b => .bl (!b)
noncomputable def dExt (d e : D) : Option D := match d, e with | .lst xs, .lst ys => if xs.length + ys.length ≤ 100000 then some (.lst (xs ++ ys)) else none | _, _ => none
noncomputable def dRep (d k : D) : Option D := match d, k with | .lst xs, .int k => if -(2 ^ 63) ≤ k ∧ k < 2 ^ 63 ∧ xs.length * k.toNat ≤ 100000 then some (.lst (List.replicate k.toNat xs).flatten) else none | _, _ => none
noncomputable def dPop2 (d k j : D) : Option D := match d, k, j with
  | .lst ds, .int k, .int j => (ixN ds.length k).bind fun a => match ds[a]? with
    | some (.lst xs) => if -(2 ^ 63) ≤ j ∧ j < 2 ^ 63 then (seqIndex? j xs.length).bind fun c => if c < xs.length then some (.lst (ds.set a (.lst (xs.eraseIdx c)))) else none else none
    | _ => none
  | _, _, _ => none

section
variable {K : PySem.W.Frag} {cl : Cl} {S S1 S2 : List Sl} {te ta tb tc td : TE} {m n : Option D}
/-! ### objects -/
structure ClsF (K : PySem.W.Frag) (C : Addr) (as : List Str) : Prop where
  c : Cls K C
  n : ∀ f ∈ as, NoAttr K C f
theorem ev_fld {c : Nat} {f : Str} {as : List Str} (T : ClsF K (cl.c c) as) (hf : f ∈ as) (h : EV K cl te S m S1) : EV K cl (tFld K te f) S (m.bind (dFld c f)) S1 := fun B G H σ I z e Q q => by
  obtain ⟨d, ed, e⟩ := bind_some e
  refine h B G H σ I d ed _ fun v G1 H1 I1 g1 h1 rv => ?_
  cases rv with
  | @ob a dx c' fs ds hg rs =>
    have e2 : (if c' = c then ds.lookup f else none) = some z := e
    by_cases hc : c' = c
    · rw [if_pos hc] at e2
      subst hc
      obtain ⟨v, ev, rv⟩ := rs.lookup e2
      exact ⟨_, _, _, _, v, rfl, I1.nxt.gh _ _ hg, T.c, T.n f hf, ev, q v G1 H1 I1 g1 h1 rv⟩
    · rw [if_neg hc] at e2; cases e2
  | _ => cases e
theorem FReps.put {G : Hp} {f : Str} {v : V} {d : D} (r : Rep K cl G v d) : ∀ {vs ds}, FReps K cl G vs ds → FReps K cl G (putF f v vs) (putD f d ds)
  | _, _, .nil => .cons r .nil
  | _, _, .cons (n := g) q t => by
    unfold putF putD
    by_cases e : g = f
    · rw [if_pos e, if_pos e]; exact .cons r t
    · rw [if_neg e, if_neg e]; exact .cons q (FReps.put r t)
theorem FReps.length {G : Hp} : ∀ {vs ds}, FReps K cl G vs ds → vs.length = ds.length
  | _, _, .nil => rfl
  | _, _, .cons _ r => congrArg (· + 1) (FReps.length r)
/-- self.f = e, self an object of its own -/
theorem sv_fld {i c : Nat} {xa : Addr} {f : Str} {as : List Str} {x : D} (T : ClsF K (cl.c c) as) (hf : f ∈ as) (h0 : S1[i]? = some (.ow (.i xa) x)) (h : EV K cl te S m S1) : SV K cl (sFld K (tVar i) te f) S (m.bind fun y => dStF c f x y) (fun b => S1.set i (.ow (.i xa) b)) := fun B G H σ I d e Dn q => by
  obtain ⟨y, ey, e⟩ := bind_some e
  refine h B G H σ I y ey _ fun v G1 H1 I1 g1 h1 rv => ?_
  obtain ⟨w, A, hσ, ow, nd, out, cls⟩ := I1.opn h0
  obtain ⟨dx, c', fs, ds, rfl, rfl, hp, rfl, fr⟩ := ow
  have e2 : (if c' = c ∧ ds.length < 1000 then some (D.ob c' (putD f y ds)) else none) = some d := e
  by_cases hc : c' = c ∧ ds.length < 1000
  · rw [if_pos hc] at e2
    obtain ⟨rfl, hl⟩ := hc
    cases e2
    refine ⟨.ref xa, hσ, xa, _, dx, fs, rfl, hp, T.c, T.n f hf, by rw [fr.length]; exact hl, ?_⟩
    exact q σ G1 _ (cls _ _ (fun q hq => upd_ne fun z => hq (by rw [z]; exact List.mem_cons_self)) ⟨dx, _, _, _, rfl, rfl, upd_same, rfl, fr.put rv⟩)
  · rw [if_neg hc] at e2; cases e2
/-- an object made: its __init__ -/
noncomputable def spI (K : PySem.W.Frag) (cl : Cl) (c : Nat) (f : List D → Option D) : Sp := fun vs H Q _ => ∃ x dx vs' G ds fs, vs = .ref x :: vs' ∧ H x = some (.ins (cl.c c) dx []) ∧ G x = none ∧ Ex G H ∧ (∀ a ∈ cl.t, GxR.TabG H a ∧ G a = none) ∧ Reps K cl G vs' ds ∧ f ds = some (.ob c fs) ∧
  ∀ G' H' dx' fv, Nxt G (cut H x) G' H' → H' x = some (.ins (cl.c c) dx' fv) → G' x = none → FReps K cl G' fv fs → Q .non H'
theorem ev_make {c : Nat} {f : List D → Option D} {ts : TA} {ms : Option (List D)} {E : XK} (hf : ∀ ds d, f ds = some d → ∃ fs, d = .ob c fs) (ha : EA K cl ts S ms S1) : EV K cl (tMake (cl.c c) (spI K cl c f) [] E ts) S (ms.bind f) S1 := fun B G H σ I z e Q q => by
  obtain ⟨ds, eds, e⟩ := bind_some e
  obtain ⟨fs, rfl⟩ := hf _ _ e
  refine ha B G H σ I ds eds _ fun vs G1 H1 I1 g1 h1 rs => fun x dx hx hdx ne => ?_
  have gh := I1.nxt.gh
  have e1 : Ex H1 (upd (upd H1 dx (.own x)) x (.ins (cl.c c) dx [])) := (Ex.new hdx).trans (Ex.new (by rw [upd_ne (Ne.symm ne)]; exact hx))
  have e2 : Ex H1 (cut (upd (upd H1 dx (.own x)) x (.ins (cl.c c) dx [])) x) := ex_cut e1 hx
  refine ⟨x, dx, vs ++ [], G1, ds, fs, rfl, upd_same, fresh_back gh hx, gh.trans e1, fun a ha => ⟨((I1.tab a ha).1).imp fun ps h => ⟨e1 _ _ h.1, h.2⟩, (I1.tab a ha).2⟩, by rw [List.append_nil]; exact rs, e, fun G' H' dx' fv nx hx' gx' fr => ⟨rfl, ?_⟩⟩
  have eg : Ex G' (upd G' x (.ins (cl.c c) dx' fv)) := Ex.new gx'
  have n2 : Nxt G1 H1 (upd G' x (.ins (cl.c c) dx' fv)) H' := ⟨nx.g.trans eg, (Ex2.of e2).trans nx.h, fun a u h => by
    by_cases e : a = x
    · subst e; rw [upd_same] at h; rw [hx']; exact h
    · rw [upd_ne e] at h; exact nx.gh a u h, fun p hp => by
    by_cases e : p = x
    · subst e; exact .inr hx
    · rw [upd_ne e] at hp
      rcases nx.fr p hp with h | h
      · exact .inl h
      · refine .inr ?_
        cases q5 : H1 p with
        | none => rfl
        | some u => rw [e2 p u q5] at h; cases h⟩
  exact q _ _ H' (I1.step n2) (g1.trans n2.g) (h1.trans n2.h) (.ob upd_same (fr.mono eg))
structure ConI (P : Program) (w : World) (K : PySem.W.Frag) (cl : Cl) (mg : Str → Option Value) (base : Heap) (k : Nat) (c : Nat) (x : Str) (f : List D → Option D) (fa : Addr) (fd : FuncData) (ps : List Str) : Prop where
  ok : FnOk P w K mg base CX0 k fa fd ps (spI K cl c f)
  mkc : Mk K (cl.c c) fa
  mg : mg x = some (.ref (cl.c c))
  bd : Binds K fd ps []
  ob : ∀ ds d, f ds = some d → ∃ fs, d = .ob c fs
noncomputable def asOb (c : Nat) : D → Option D | .ob c' fs => if c' = c then some (.ob c' fs) else none | _ => none
theorem asOb_ob {c : Nat} {x d : D} (h : asOb c x = some d) : x = d ∧ ∃ fs, d = .ob c fs := by
  unfold asOb at h
  split at h
  · split at h
    · rename_i e
      cases h
      subst e
      exact ⟨rfl, _, rfl⟩
    · cases h
  · cases h
theorem init_con {P : Program} {w : World} {mg : Str → Option Value} {base : Heap} {x qual : Str} {st : Stmt} {fa : Addr} {fd : FuncData} {N ps : List Str} {k n c : Nat} {f : List D → Option D}
    (F : Fun K "__init__" qual st fa fd) (SC : FnScope N ps (defScope st)) (hn : ps.length = n + 1) (ar : ∀ ds d, f ds = some d → ds.length = n) (mk : Mk K (cl.c c) fa) (hm : mg x = some (.ref (cl.c c))) (hb : Binds K fd ps [])
    (body : ∀ (cdv : Value) (A : Around) (outer : List Env) (s : Shared) (H : Hp) (E : XK), Room k (A.deeper (envOfC qual (defScope st) s.heap.objs.size fa cdv)) →
      ∃ t, PSs (cxOf CX0 P w K mg base N qual (defScope st) fa cdv A outer s H E).nox (defBody st) t ∧ ∀ (xa : Addr) (ds : List D), ds.length = n → SV K cl t (.ow (.i xa) (.ob c []) :: (ds.map .vl ++ List.replicate (N.length - (n + 1)) .jk)) (f ds) (fun b => .ow (.i xa) b :: List.replicate (n + (N.length - (n + 1))) .jk)) : ConI P w K cl mg base (k + 1) c x (fun ds => (f ds).bind (asOb c)) fa fd ps := by
  refine ⟨F.ok SC (fun vs H Q E h => ?_) (fun cdv A outer s H vs Q E hr h => ?_), mk, hm, hb, fun ds d h => ?_⟩
  · obtain ⟨x, dx, vs', G, ds, fs, rfl, _, _, _, _, rs, e, _⟩ := h
    obtain ⟨d0, e, e2⟩ := bind_some e
    rw [List.length_cons, rs.length, ar ds _ e, hn]
  · obtain ⟨x, dx, vs', G, ds, fs, rfl, hx, gx, gh, tb, rs, e, q⟩ := h
    obtain ⟨d0, e, e2⟩ := bind_some e
    obtain ⟨rfl, _⟩ := asOb_ob e2
    obtain ⟨t, hp, ht⟩ := body cdv A outer s H E hr
    have hl := ar ds _ e
    have hv : vs'.length = n := rs.length.trans hl
    refine ⟨t, hp, ?_⟩
    have e0 : L2.start N (.ref x :: vs') = some (.ref x) :: (vs'.map some ++ List.replicate (N.length - (n + 1)) none) := by unfold L2.start; rw [List.length_cons, hv]; rfl
    rw [e0]
    refine ht x ds hl ⟨G, cut H x⟩ G H _ ⟨⟨Ex.refl _, Ex2.of fun a u h => ?_, gh, fun _ h => .inl h⟩, by simp [rs.length], tb, atA (fun _ => []) 0 [x], fun i s hs => ?_, fun i j hij _ _ p hp => ?_⟩ _ e _ (fun σ' G' H' I' => ?_)
    · have h2 : (if a = x then none else H a) = some u := h
      by_cases z : a = x
      · rw [if_pos z] at h2; cases h2
      · rw [if_neg z] at h2; exact h2
    · cases i with
      | zero =>
        cases hs
        exact ⟨_, rfl, .ref x, rfl, ⟨dx, c, [], [], rfl, rfl, hx, rfl, .nil⟩, by rw [atA_e rfl]; simp, fun p hp => by rw [atA_e rfl] at hp; rw [List.mem_singleton.mp hp]; exact ⟨gx, if_pos rfl⟩⟩
      | succ i =>
        obtain ⟨o, h1, h2⟩ := slot_start rs (i := i) (by simpa using hs)
        refine ⟨o, by simpa using h1, ?_⟩
        rcases h2 with rfl | ⟨v, d', rfl, rfl, rv⟩
        · rfl
        · exact ⟨rfl, v, rfl, rv⟩
    · cases i with
      | zero => rw [atA_n (fun z => hij z.symm)]; exact fun z => nomatch z
      | succ i => rw [atA_n (Nat.succ_ne_zero i)] at hp; cases hp
    · obtain ⟨v, A, h1, ow, nd, out, _⟩ := I'.opn (i := 0) rfl
      obtain ⟨dx', c', fv, ds', rfl, e2, hp', rfl, fr⟩ := ow
      cases e2
      exact q G' H' dx' fv I'.nxt hp' (out x List.mem_cons_self).1 fr
  · obtain ⟨d0, e, e2⟩ := bind_some h
    exact (asOb_ob e2).2
/-! ### dicts -/
theorem KReps.any {G : Hp} (k : Key) : ∀ {vs ds}, KReps K cl G vs ds → (vs.any fun kv => decide (kv.1 = k)) = ds.any fun kv => decide (kv.1 = k)
  | _, _, .nil => rfl
  | _, _, .cons _ t => by rw [List.any_cons, List.any_cons, KReps.any k t]
theorem KReps.map {G : Hp} {k : Key} {v : V} {d : D} (r : Rep K cl G v d) : ∀ {vs ds}, KReps K cl G vs ds → KReps K cl G (vs.map fun kv => if kv.1 = k then (kv.1, v) else kv) (ds.map fun kv => if kv.1 = k then (kv.1, d) else kv)
  | _, _, .nil => .nil
  | _, _, .cons (n := g) q t => by
    rw [List.map_cons, List.map_cons]
    by_cases e : g = k
    · rw [if_pos (show (g, _).1 = k from e), if_pos (show (g, _).1 = k from e)]; exact .cons r (KReps.map r t)
    · rw [if_neg (show ¬ (g, _).1 = k from e), if_neg (show ¬ (g, _).1 = k from e)]; exact .cons q (KReps.map r t)
theorem KReps.app {G : Hp} {k : Key} {v : V} {d : D} (r : Rep K cl G v d) : ∀ {vs ds}, KReps K cl G vs ds → KReps K cl G (vs ++ [(k, v)]) (ds ++ [(k, d)])
  | _, _, .nil => .cons r .nil
  | _, _, .cons q t => .cons q (KReps.app r t)
theorem KReps.put {G : Hp} {k : Key} {v : V} {d : D} (r : Rep K cl G v d) {vs ds} (h : KReps K cl G vs ds) : KReps K cl G (putK vs k v) (putKD ds k d) := by
  unfold putK putKD
  rw [h.any k]
  by_cases e : (ds.any fun kv => decide (kv.1 = k)) = true
  · rw [if_pos e, if_pos e]; exact h.map r
  · rw [if_neg e, if_neg e]; exact h.app r
/-! ### in, extend, repeat, index -/
theorem flat_V {G : Hp} {v : V} {d : D} (r : Rep K cl G v d) (h : flatB d = true) : flatV v = true := by
  cases r <;> first | rfl | cases h
theorem flat_Vs {G : Hp} : ∀ {vs ds}, Reps K cl G vs ds → ds.all flatB = true → vs.all flatV = true
  | _, _, .nil, _ => rfl
  | _, _, .cons r t, h => by
    rw [List.all_cons, Bool.and_eq_true] at h
    rw [List.all_cons, flat_V r h.1, flat_Vs t h.2]; rfl
theorem eq_V {G : Hp} {v w : V} {d e : D} (r : Rep K cl G v d) (s : Rep K cl G w e) (h : flatB d = true) (h2 : flatB e = true) : eqV v w = eqFl d e := by
  cases r <;> cases s <;> first | rfl | cases h | cases h2
theorem in_V {G : Hp} {w : V} {e : D} (s : Rep K cl G w e) (h2 : flatB e = true) : ∀ {vs ds}, Reps K cl G vs ds → ds.all flatB = true → inV w vs = ds.any fun y => eqFl y e
  | _, _, .nil, _ => rfl
  | _, _, .cons r t, h => by
    rw [List.all_cons, Bool.and_eq_true] at h
    have := in_V s h2 t h.2
    unfold inV at this ⊢
    rw [List.any_cons, List.any_cons, this, eq_V r s h.1 h2]
theorem in_rep {G H : Hp} {x y : V} {d e : D} {b : Bool} (gh : Ex G H) (rx : Rep K cl G x d) (ry : Rep K cl G y e) (h : dInB d e = some b) : ∃ p xs, y = .ref p ∧ (SqL K H p xs ∨ SqT K H p xs) ∧ flatV x = true ∧ xs.all flatV = true ∧ inV x xs = b := by
  obtain ⟨ys, ey, h⟩ := bind_some h
  split at h
  · rename_i hf
    cases h
    cases ry with
    | lst hg rs => cases ey; exact ⟨_, _, rfl, .inl (sq_of (gh _ _ hg)), flat_V rx hf.1, flat_Vs rs hf.2, in_V rx hf.1 rs hf.2⟩
    | rol hg rs => cases ey; exact ⟨_, _, rfl, .inl (ex_l gh hg), flat_V rx hf.1, flat_Vs rs hf.2, in_V rx hf.1 rs hf.2⟩
    | tup hg rs => cases ey; exact ⟨_, _, rfl, .inr (ex_t gh hg), flat_V rx hf.1, flat_Vs rs hf.2, in_V rx hf.1 rs hf.2⟩
    | _ => cases ey
  · cases h
theorem o_in : Op2 K cl (rIn K false) dIn := by
  intro G H x y d e z gh rx ry h Q q
  obtain ⟨b, eb, rfl⟩ := Option.map_eq_some_iff.mp h
  obtain ⟨p, xs, h1, h2, h3, h4, rfl⟩ := in_rep gh rx ry eb
  exact ⟨p, xs, h1, h2, h3, h4, q _ .bl⟩
theorem o_nin : Op2 K cl (rIn K true) dNin := by
  intro G H x y d e z gh rx ry h Q q
  obtain ⟨b, eb, rfl⟩ := Option.map_eq_some_iff.mp h
  obtain ⟨p, xs, h1, h2, h3, h4, rfl⟩ := in_rep gh rx ry eb
  exact ⟨p, xs, h1, h2, h3, h4, q _ .bl⟩
theorem reps_rep {G : Hp} {vs ds} (r : Reps K cl G vs ds) : ∀ n : Nat, Reps K cl G (List.replicate n vs).flatten (List.replicate n ds).flatten
  | 0 => .nil
  | n + 1 => by
    rw [List.replicate_succ, List.replicate_succ, List.flatten_cons, List.flatten_cons]
    exact r.append (reps_rep r n)
theorem o_rep : Op2N K cl rRep dRep := by
  intro G H x y d e z gh rx ry h Q q
  cases rx <;> cases ry <;> simp only [dRep] at h <;> try (cases h; done)
  split at h
  · rename_i g1 r1 _ hl
    cases h
    exact ⟨_, _, _, rfl, rfl, gh _ _ g1, hl.1, hl.2.1, sz_of (by rw [r1.length]; exact hl.2.2), fun p hp => q p _ _ hp rfl (reps_rep r1 _)⟩
  · cases h
theorem sv_ext {i : Nat} {d : D} (h0 : S[i]? = some (.ow (.l .v) d)) (h1 : S1[i]? = some (.ow (.l .v) d)) (h : EV K cl te S m S1) : SV K cl (tDrop (tBM K "list" rExtend (tVar i) (tCons te tNil))) S (m.bind fun x => dExt d x) (fun d' => S1.set i (.ow (.l .v) d')) := fun B G H σ I d' e Dn q => by
  obtain ⟨x, ex, e⟩ := bind_some e
  obtain ⟨p, vs, xs, hσ, rfl, hp, gp, bp, rs⟩ := I.ow h0
  refine ⟨.ref p, hσ, Or.inl ⟨rfl, vs, sq_of hp⟩, h B G H σ I x ex _ fun v G' H' I' g1 h1' r => ?_⟩
  cases r with
  | lst hg rz =>
    have e2 : (if xs.length + _ ≤ 100000 then some (D.lst (xs ++ _)) else none) = some d' := e
    split at e2
    · rename_i hl
      cases e2
      refine ⟨p, _, vs, _, rfl, rfl, h1' _ _ hp, I'.nxt.gh _ _ hg, sz_of (by rw [rs.length, rz.length]; exact hl), q σ G' _ ?_⟩
      exact I'.mut h1 hσ ((rs.mono g1).append rz)
    · cases e2
  | _ => cases e
/-- xs[k].pop(j), xs a list of lists, all of it owned -/
theorem OwnL.get {R : V → D → List Addr → Prop} : ∀ {vs ds A} {k : Nat} {v : V}, OwnL R vs ds A → vs[k]? = some v → ∃ d A0, ds[k]? = some d ∧ R v d A0 ∧ A0 ⊆ A ∧
    ∀ {R' : V → D → List Addr → Prop} {d' : D}, R' v d' A0 → (∀ v d A2, (∀ p ∈ A2, p ∈ A → p ∉ A0 ∨ ¬ A.Nodup) → A2 ⊆ A → R v d A2 → R' v d A2) → OwnL R' vs (ds.set k d') A
  | _, _, _, _, _, .nil, h => by cases h
  | _, _, _, 0, _, .cons (A := A0) (As := As) r t, h => by
    cases h
    refine ⟨_, A0, rfl, r, List.subset_append_left _ _, fun {R' d'} r' k => .cons r' (t.imp fun v d A2 s q => k v d A2 (fun p hp _ => ?_) (fun _ hx => List.mem_append_right _ (s hx)) q)⟩
    by_cases nd : (A0 ++ As).Nodup
    · exact .inl fun z => (List.nodup_append.mp nd).2.2 p z p (s hp) rfl
    · exact .inr nd
  | _, _, _, k + 1, _, .cons (A := A0) (As := As) r t, h => by
    obtain ⟨d, A1, e1, e2, e3, e4⟩ := OwnL.get (k := k) t (by simpa using h)
    refine ⟨d, A1, by simpa using e1, e2, fun _ hx => List.mem_append_right _ (e3 hx), fun {R' d'} r' kk => .cons (kk _ _ _ (fun p hp _ => ?_) (List.subset_append_left _ _) r) (e4 r' fun v d A2 h2 s q => kk v d A2 (fun p hp _ => ?_) (fun _ hx => List.mem_append_right _ (s hx)) q)⟩
    · by_cases nd : (A0 ++ As).Nodup
      · exact .inl fun z => (List.nodup_append.mp nd).2.2 p hp p (e3 z) rfl
      · exact .inr nd
    · rcases h2 p hp (s hp) with z | z
      · exact .inl z
      · exact .inr fun nd => z (List.nodup_append.mp nd).2.1
theorem OwnL.set {R : V → D → List Addr → Prop} {vs ds A} {k : Nat} {v : V} (h : OwnL R vs ds A) (hv : vs[k]? = some v) (nd : A.Nodup) : ∃ d A0, ds[k]? = some d ∧ R v d A0 ∧ A0 ⊆ A ∧
    ∀ {R' : V → D → List Addr → Prop} {d' : D}, R' v d' A0 → (∀ v d A2, (∀ p ∈ A2, p ∉ A0) → A2 ⊆ A → R v d A2 → R' v d A2) → OwnL R' vs (ds.set k d') A := by
  obtain ⟨d, A0, e1, e2, e3, e4⟩ := h.get hv
  exact ⟨d, A0, e1, e2, e3, fun r' k => e4 r' fun v d A2 h2 s q => k v d A2 (fun p hp => (h2 p hp (s hp)).resolve_right fun z => z nd) s q⟩
theorem sv_pop2 {i : Nat} {d : D} (h0 : S[i]? = some (.ow (.l (.l .v)) d)) (h1 : S1[i]? = some (.ow (.l (.l .v)) d)) (h2 : S2[i]? = some (.ow (.l (.l .v)) d)) (hk : EV K cl ta S m S1) (h : EV K cl te S1 n S2) :
    SV K cl (tDrop (tBM K "list" rPopAt (tOp (rIx K) (tVar i) ta) (tCons te tNil))) S (m.bind fun k => n.bind fun j => dPop2 d k j) (fun d' => S2.set i (.ow (.l (.l .v)) d')) := fun B G H σ I z e Dn q => by
  obtain ⟨k, ek, e⟩ := bind_some e
  obtain ⟨j, ej, e⟩ := bind_some e
  obtain ⟨v0, A, hσ, ⟨p, vs, ds, A', rfl, rfl, hp, rfl, owl⟩, nd, out, _⟩ := I.opn h0
  refine ⟨.ref p, hσ, hk B G H σ I k ek _ fun w G1 H1 I1 g1 h1' rk => ?_⟩
  obtain ⟨kk, rfl⟩ : ∃ kk, k = .int kk := by
    cases k <;> first | exact ⟨_, rfl⟩ | exact nomatch e
  obtain ⟨jj, rfl⟩ : ∃ jj, j = .int jj := by
    cases j <;> first | exact ⟨_, rfl⟩ | exact nomatch e
  have e : (ixN ds.length kk).bind (fun a => match ds[a]? with
    | some (.lst xs) => if -(2 ^ 63) ≤ jj ∧ jj < 2 ^ 63 then (seqIndex? jj xs.length).bind fun c => if c < xs.length then some (D.lst (ds.set a (.lst (xs.eraseIdx c)))) else none else none
    | _ => none) = some z := e
  · obtain ⟨a, ea, e⟩ := bind_some e
    split at e
    · rename_i xs exs
      split at e
      · rename_i hj
        obtain ⟨c, ec, e⟩ := bind_some e
        split at e
        · rename_i hc
          cases e
          cases rk
          have hav : ∃ v, vs[a]? = some v := by
            have := (List.getElem?_eq_some_iff.mp exs).1
            exact ⟨_, List.getElem?_eq_getElem (by rw [owl.len]; exact this)⟩
          obtain ⟨v, hv⟩ := hav
          obtain ⟨d1, A1, f1, f2, f3, _⟩ := owl.set hv (List.nodup_cons.mp nd).2
          rw [exs] at f1; cases f1
          obtain ⟨p1, ws, xs1, rfl, e5, hp1, rfl, rws⟩ := f2.flat
          cases e5
          refine Or.inl ⟨p, vs, _, .ref p1, rfl, rfl, sq_of (h1' _ _ hp), ?_, ?_⟩
          · unfold atI; rw [owl.len, ea]; exact hv
          refine ⟨Or.inl ⟨rfl, ws, sq_of (h1' _ _ hp1)⟩, h B G1 H1 σ I1 _ ej _ fun y G2 H2 I2 g2 h2' rj => ?_⟩
          cases rj
          have hy : ∃ y, ws[c]? = some y := ⟨_, List.getElem?_eq_getElem (by rw [rws.length]; exact hc)⟩
          obtain ⟨y, hy⟩ := hy
          refine ⟨p1, ws, _, c, y, rfl, rfl, h2' _ _ (h1' _ _ hp1), hj.1, hj.2, by rw [rws.length]; exact ec, hy, ?_⟩
          obtain ⟨v9, A9, hσ9, ⟨p9, vs9, ds9, A99, rfl, e9, hp9, rfl, owl9⟩, nd9, out9, cls⟩ := I2.opn h2
          rw [hσ] at hσ9; cases hσ9
          cases e9
          have hpp := (h1'.trans h2') _ _ hp
          rw [hpp] at hp9; cases hp9
          obtain ⟨d2, A2, f1, f2, f3, f4⟩ := owl9.set hv (List.nodup_cons.mp nd9).2
          rw [exs] at f1; cases f1
          obtain ⟨p2, ws2, xs2, e6, e7, hp2, rfl, rws2⟩ := f2.flat
          cases e6
          cases e7
          rw [(h1'.trans h2') _ _ hp1] at hp2; cases hp2
          have np : p ≠ p1 := fun z => (List.nodup_cons.mp nd9).1 (f3 (by rw [z]; exact List.mem_cons_self))
          refine q σ G2 _ (cls _ _ (fun q hq => upd_ne fun z => hq (by rw [z]; exact List.mem_cons_of_mem _ (f3 List.mem_cons_self))) ⟨p, vs, _, A99, rfl, rfl, by rw [upd_ne np]; exact hpp, rfl, ?_⟩)
          refine f4 (Own.mkFlat upd_same (rws2.eraseIdx c)) fun v d A3 hn s r => r.step (Ex.refl _) fun q hq u _ hu => ?_
          rw [upd_ne fun z => hn q hq (by rw [z]; exact List.mem_cons_self)]
          exact hu
        · cases e
      · cases e
    · cases e
end
end Oh
namespace Oh
open PySem PySem.Spec PyProof.Rows L2 Evl
section
variable {X : Cx} (K : PySem.W.Frag)
theorem ixK (h : X.K = K := by rfl) : IxR X (rIx K) := by subst h; exact ix_seq
theorem slK (h : X.K = K := by rfl) : SlR X (rSlL K) := by subst h; exact sl_list
theorem listK (h : X.K = K := by rfl) : CallR X (.type "list") fun xs H Q => ∃ p ys, xs = [V.ref p] ∧ (SqL K H p ys ∨ SqT K H p ys) ∧ ∀ (l : Addr), H l = none → Q (V.ref l) (upd H l (HO.lst ys)) := by subst h; exact call_list_of
theorem lenK (h : X.K = K := by rfl) : CallR X (.builtin "len") fun xs H Q => (∃ p ys, xs = [V.ref p] ∧ (SqL K H p ys ∨ SqT K H p ys) ∧ Q (V.int ys.length) H) ∨ ∃ z, xs = [V.str z] ∧ z.length ≤ sizeLine ∧ Q (V.int z.length) H := by subst h; exact call_lenD
theorem inK (h : X.K = K := by rfl) : OpR X (compareOp .In) (rIn K false) := by subst h; exact op_in_seq
theorem ninK (h : X.K = K := by rfl) : OpR X (compareOp .NotIn) (rIn K true) := by subst h; exact op_notIn_seq
theorem eqK {k : Nat} (hr : Room k X.A) (h : X.K = K := by rfl) : OpR X (compareOp .Eq) (rEqD K) := by subst h; exact op_eqD hr.units
theorem neK {k : Nat} (hr : Room k X.A) (h : X.K = K := by rfl) : OpR X (compareOp .NotEq) (rNeD K) := by subst h; exact op_neD hr.units
theorem isiK (h : X.K = K := by rfl) : CallR X (.builtin "isinstance") (rIsi K) := by subst h; exact call_isi
variable {e o l tg : Expr} {ta te tl : TE} {f : Str} {pos : Pos}
theorem fldK (he : PE X e ta) (hb : attributeBase e f X.env (eval e X.env) = eval e X.env) (h : X.K = K := by rfl) : PE X (.Attribute e f pos) (tFld K ta f) := by subst h; exact pe_fld he hb
theorem truthK (he : PE X e ta) (hs : ∀ (whole : Sem Value), PySem.isTrue e X.env whole = do
          let v ← whole
          standAt (Expr.pos e)
          holding [v] (truthy v)) (h : X.K = K := by rfl) : PT X e fun σ H Q => ta σ H fun x H' => ∃ k, TruV K x H' k ∧ Q k H' := by subst h; exact pt_truth he hs
theorem listIK (he : PE X l tl) (h : X.K = K := by rfl) : PI X tg l (iList K tl) := by subst h; exact pi_list he
theorem tupGK {es : List Expr} {k : Nat} {t : TGs} {n : Nat} (hc : X.calm = true) (hp : PGs X es t) (h1 : (assignEach es X.env).length = n := by rfl) (h2 : (assignEach es X.env).findIdx? (fun x => x.fst) = none := by rfl) (h : X.K = K := by rfl) :
    PG X (.Tuple es k pos) (gTup K n t) := by subst h; exact pg_tup hc hp h1 h2
theorem bmK {es : List Expr} {to : TE} {t : TA} {name : Str} {apos cpos : Pos} {T id : String} {r : V → List V → Hp → VK → Prop} (pl : PlainAttrs T) (hs : Slot T name id) (ht : typeOf (Value.builtin id) = pure (Value.type "method_descriptor"))
    (hm : MtR X id r) (ho : PE X o to) (ha : PA X (e :: es) t) (h1 : attributeBase o name X.env (eval o X.env) = eval o X.env := by rfl)
    (h2 : ((((backTo cpos (starEach (e :: es) X.env)).all fun x => !x.fst) && (backToKw cpos (keywordEach [] X.env)).all fun x => x.fst.isSome) && decide (((e :: es).length + ([] : List Keyword).length + if ([] : List Keyword).isEmpty = true then 0 else 1) < 30)) = true := by rfl)
    (h3 : (apos.endLine == cpos.line) = true := by rfl) (h4 : starEach (e :: es) X.env = (false, eval e X.env) :: starEach es X.env := by rfl) (h5 : ((backTo cpos (starEach es X.env)).any fun x => x.fst) = false := by rfl) (h : X.K = K := by rfl) :
    PE X (.Call (.Attribute o name apos) (e :: es) [] cpos) (tBM K T r to t) := by subst h; exact pe_bm pl hs ht hm ho ha h1 h2 h3 h4 h5
end
/-! ### constants of the module -/
noncomputable def vD : D → V | .int i => .int i | .str s => .str s | .bl b => .bl b | _ => .non
noncomputable def GT (K : PySem.W.Frag) (mg : Str → Option Value) (x : Str) (a : Addr) (ds : List D) : Prop := mg x = some (.ref a) ∧ ds.all flatB = true ∧ ∃ (o : Obj) (its : Array Value) (n : Nat), K.lookup a = some o ∧ o.cls = .type "tuple" ∧ o.data = .seq its n ∧ its.size ≤ sizeLine ∧ Vals (ds.map vD) its.toList
noncomputable def GS (mg : Str → Option Value) (x : Str) (u : Value) (d : D) : Prop := mg x = some u ∧ RelV (vD d) u
section
variable {K : PySem.W.Frag} {cl : Cl} {S : List Sl}
theorem rep_vD {G : Hp} : ∀ {d : D}, flatB d = true → Rep K cl G (vD d) d
  | .non, _ => .non
  | .bl _, _ => .bl
  | .int _, _ => .int
  | .str _, _ => .str
theorem reps_vD {G : Hp} : ∀ {ds : List D}, ds.all flatB = true → Reps K cl G (ds.map vD) ds
  | [], _ => .nil
  | d :: ds, h => by
    rw [List.all_cons, Bool.and_eq_true] at h
    exact .cons (rep_vD h.1) (reps_vD h.2)
theorem ev_glt {mg : Str → Option Value} {x : Str} {a : Addr} {ds : List D} (g : GT K mg x a ds) : EV K cl (tC (.ref a)) S (some (.tup ds)) S := fun B G H σ I d e Q q => by
  cases e
  exact q _ G H I (Ex.refl _) (Ex2.refl _) (.tup (.inr g.2.2) (reps_vD g.2.1))
end
end Oh
namespace Oh
open PySem PySem.Spec PyProof.Rows L2
open GxR (TabB TabG Tabbed)

/-! ### the frame of a generator expression -/
noncomputable abbrev gEnv (X : Cx) (s : Shared) (scope : Scope) (code : Value) : Env := genEnv scope (cloFrom X.env.cells scope.names []) s.heap.objs.size code builtinsNs X.env
noncomputable abbrev gx (X : Cx) (s : Shared) (H : Hp) (scope : Scope) (code : Value) (fp : List Addr) (A' : Around) (pa : Addr × Obj) : Cx :=
  { X with s_0 := s, H_0 := H, A := A', env := gEnv X s scope code, outer := X.stack, stack := gEnv X s scope code :: X.stack, ex := fp, fn := fun _ => false, calm := true, pn := [pa], xe := fun _ _ => False }
section
variable {X : Cx} {pins : List (Addr × Obj)} {σ : L2.St} {H : Hp} {s : Shared}
theorem clo_old (I : Inv X pins σ H s) {scope : Scope} {own : List (Str × Nat)} (ok : BlkOk X.N X.env.scope scope own) {y : Str} {c : Addr} (h : (cloFrom X.env.cells scope.names []).lookup y = some c) : X.env.cells.lookup y = some c ∧ c < s.heap.objs.size := by
  rcases cloFrom_mem (PySem.mem_of_lookup h) with z | ⟨z, rfl⟩
  · exact nomatch z
  · have hv : X.env.kindOf y = some .cell ∨ X.env.kindOf y = some .free := ok.free _ z rfl
    obtain ⟨c', e⟩ := I.ok.has y hv
    rw [e]
    obtain ⟨v, q⟩ := I.cell y c' e
    exact ⟨rfl, q.lt⟩
theorem clo_has (I : Inv X pins σ H s) {scope : Scope} {own : List (Str × Nat)} (ok : BlkOk X.N X.env.scope scope own) {y : Str} (h : scope.names.lookup y = some .free) : ∃ c, (cloFrom X.env.cells scope.names []).lookup y = some c := by
  obtain ⟨c, e⟩ := mem_lookup (cloFrom_has (cells := X.env.cells) (acc := []) (PySem.mem_of_lookup h))
  exact ⟨c, e⟩
theorem gstart {scope : Scope} {own : List (Str × Nat)} {fp : List Addr} (I : Inv X pins σ H s) (ok : BlkOk X.N X.env.scope scope own) (nc : ∀ y ∈ scope.names, y.2 ≠ .cell) (hN : X.N.Nodup) (hfp : ∀ b ∈ fp, FpOk X pins H b ∧ b < s.heap.objs.size)
    {code : Value} {A' : Around} {a : Addr} {ob : Obj} {h5 : Heap} {g5 : Array GenState} {t5 : Nat} {m5 : Str → Option Value} (hA : A'.handled = none) (hF : A'.frames = some (gEnv X s scope code :: X.stack))
    (k5 : ∀ b o, s.heap.get? b = some o → h5.get? b = some o) (n5 : h5.Ns s.heap.objs.size m5) (ba : AllBare g5) (ha : s.heap.objs.size < a) (ea : h5.get? a = some ob) (da : ∀ v, ob.data ≠ .cell v) :
    Inv (gx X s H scope code fp A' (a, ob)) [] (L2.wipe σ (own.map (·.2))) H { s with heap := h5, gens := g5, toks := t5 } := by
  have old := fun {y : Str} {c : Addr} => clo_old (y := y) (c := c) I ok
  have kind : ∀ {y : Str} {k : NameKind}, scope.names.lookup y = some k → k ≠ .cell := fun {y k} h => nc _ (PySem.mem_of_lookup h)
  have fresh : ∀ {b : Addr}, s.heap.objs.size ≤ b → H b = none := fun h => I.hok.fresh h
  refine ⟨?ok, rfl, ba, Un.kept k5, ⟨m5, n5, fun i y v e1 e2 e3 => ?loc⟩, fun y c e => ?cell, fresh (Nat.le_refl _), fun y c e => I.freeC y c (old e).1, fun p hp => ?pin, I.hok.kept k5, (L2.wipe_length _ _).trans I.len⟩
  case ok =>
    refine { mod := I.ok.mod, kind := ok.kind, glob := I.ok.glob, blt := rfl, above := Nat.le_refl _, inj := fun y z c e1 e2 => I.ok.inj y z c (old e1).1 (old e2).1, has := fun y hy => ?_, cab := fun _ _ z => (nomatch z), hd := fun _ => hA, frames := hF, stk := .inr ⟨rfl, rfl⟩,
             exf := fun b hb => ⟨Nat.ne_of_lt (hfp b hb).2, fun y c e => (hfp b hb).1.2.2.2.2.1 y c (old e).1⟩, bs := I.bs, bsz := Nat.le_trans I.ok.bsz I.sz, noex := fun b o e hb => ?_, exfs := fun b hb z => ?_, funs := I.stack, frf := I.stkFree }
    · rcases hy with hy | hy
      · exact absurd rfl (kind (show scope.names.lookup y = some .cell from hy))
      · exact clo_has I ok hy
    · rcases (hfp b hb).1.2.2.2.1 with z | z
      · exact I.ok.noex b o e z
      · exact Nat.lt_irrefl _ (Nat.lt_of_lt_of_le (Heap.lt_size e) (Nat.le_trans I.ok.bsz z))
    · rcases List.mem_cons.mp (I.stkSub b z) with z | z
      · exact (hfp b hb).1.2.1 z
      · exact (hfp b hb).1.2.2.1 z
  case loc =>
    obtain ⟨e2, hne⟩ := wipe_some e2
    have hfr : scope.names.lookup y = some .free := by
      have no : ∀ k, scope.names.lookup y = some k → k = .local ∨ k = .cell → False := fun k hk hc => by
        rcases ok.own _ (PySem.mem_of_lookup hk) hc with z | z
        · obtain ⟨p, hp, rfl⟩ := List.mem_map.mp z
          exact hne (List.mem_map.mpr ⟨p, hp, nodup_ix hN (ok.ix p hp) e1⟩)
        · exact z (List.mem_of_getElem? e1)
      rcases e3 with e3 | e3 | e3
      · exact (no _ e3 (.inl rfl)).elim
      · exact (no _ e3 (.inr rfl)).elim
      · exact e3
    obtain ⟨c, hc⟩ := clo_has I ok hfr
    obtain ⟨hc0, _⟩ := old hc
    obtain ⟨m, hn, hl⟩ := I.loc
    have vk : X.env.scope.names.lookup y = some .cell ∨ X.env.scope.names.lookup y = some .free := ok.free _ (PySem.mem_of_lookup hfr) rfl
    obtain ⟨u, r, q⟩ := hl i y v e1 e2 (vk.elim (fun k => .inr (.inl k)) fun k => .inr (.inr k))
    refine ⟨u, r, .inr ⟨.inr hfr, c, hc, ?_⟩⟩
    rcases q with ⟨k, _⟩ | ⟨_, c', e', z⟩
    · have k : X.env.scope.names.lookup y = some .local := k
      rcases vk with k' | k' <;> rw [k] at k' <;> cases k'
    · rw [hc0] at e'; cases e'
      exact z.keeps k5
  case cell =>
    obtain ⟨v, z⟩ := I.cell y c (old e).1
    exact ⟨v, z.keeps k5⟩
  case pin =>
    have hp : p = (a, ob) := by simpa using hp
    subst hp
    refine ⟨ea, fresh (Nat.le_of_lt ha), Nat.ne_of_gt ha, fun z => ?_, da⟩
    rcases List.mem_cons.mp (I.stkSub a z) with z | z
    · rw [z] at ha; exact Nat.lt_irrefl _ (Nat.lt_trans ha I.lt)
    · exact I.nofs (Nat.le_of_lt ha) z
/-- the generators, the drawn, the tokens are nobody's business -/
theorem inv_gens (I : Inv X pins σ H s) {s' : Shared} (hh : ∀ b o, s.heap.get? b = some o → s'.heap.get? b = some o) (ho : s'.os = s.os) (hg : AllBare s'.gens) : Inv X pins σ H s' := by
  obtain ⟨h', g', d', t', o'⟩ := s'
  have e : o' = s.os := ho
  subst e
  obtain ⟨m, hn, _⟩ := id I.loc
  exact I.step (ch := []) (fun _ z => nomatch z) (fun b o _ _ _ q _ => hh b o q) (fun b o _ _ _ q _ => ⟨o.slots, hh b o q⟩) (fun _ _ _ _ n => n) (fun b o _ q => ⟨o, hh b o q⟩) (fun _ _ q => q) (fun _ _ _ q => q) (fun b ps q => ⟨#[], by rw [q]; simp⟩) (fun _ h => h.keeps hh) (I.hok.kept hh) hg
end
/-! ### its run -/
section
variable {X : Cx} {s : Shared} {H0 : Hp} {scope : Scope} {code : Value} {fp : List Addr} {A : Around} {pa : Addr × Obj}
/-- how all(..) is read, turn by turn -/
noncomputable def AllT (J : It) (g : TG) (te : TE) (vs : List Nat) (σ : L2.St) (Q : VK) (W : Nat → Nat → Hp → Prop) : Prop := ∀ i m H, W i m H →
  (J.stop i H ∧ Q (.bl true) H) ∨ (J.go i H ∧ ∀ x H', J.yld i H x H' → g x (L2.wipe σ vs) H' fun σ2 H2 => L2.wipe σ2 vs = L2.wipe σ vs ∧ te σ2 H2 fun y H3 => ∃ b, y = .bl b ∧ if b = true then ∃ m', m' < m ∧ W (i + 1) m' H3 else Q (.bl false) H3)
/-- between two turns -/
noncomputable def Zs (X' : Cx) (fp : List Addr) (tn : Nat → Heap → Prop) (σ' : L2.St) (W : Nat → Nat → Hp → Prop) (i m : Nat) (s : Shared) : Prop := ∃ H, Inv X' [] σ' H s ∧ tn i s.heap ∧ (∀ b ∈ fp, H b = none) ∧ W i m H
/-- at the end -/
noncomputable def Ze (X' : Cx) (σ' : L2.St) (Q : VK) (b : Bool) (s : Shared) : Prop := ∃ H, Inv X' [] σ' H s ∧ Q (.bl b) H
noncomputable def YG (X' : Cx) (pa : Addr × Obj) (fp : List Addr) (tn : Nat → Heap → Prop) (σ' : L2.St) (W : Nat → Nat → Hp → Prop) (Q : VK) : Protocol := fun n _ v s kap =>
  ∃ b, v = .bool b ∧ AllBare s.gens ∧ s.heap.get? pa.1 = some pa.2 ∧ s.heap.NoLimit ∧ if b = true then ∀ s'' : Shared, s''.heap = s.heap → s''.os = s.os → AllBare s''.gens → kap (.send .none) s'' else Ze X' σ' Q false s
noncomputable def RG (X' : Cx) (σ' : L2.St) (Q : VK) : GenEnd := fun _ _ r s => r = .ok .next ∧ Ze X' σ' Q true s
theorem sb {P : Program} {w : World} {A A' : Around} {R : GenEnd} {Y : Protocol} {n : Nat} {s0 s : Shared} {c : Code} {α β : Type} {m : Sem α} {K : α → Sem β} {K' : β → Sem PySem.Fin} {J' : Value → Sem PySem.Fin} {gd : Bool → Bool} {lv : List Value → List Value}
    (hA : A.over c [] = A') (h : wpAny (model P w) A' m (fun a s' => Seg (model P w) A R Y n s0 c ((K a).wrap K' J' gd lv) [] s') (fun _ _ => False) s) : Seg (model P w) A R Y n s0 c ((m >>= K).wrap K' J' gd lv) [] s := by
  subst hA
  exact seg_bind_wrap (wpAny_mono h (fun _ _ z => z) fun _ _ z => z.elim)
theorem sw {P : Program} {w : World} {A A' : Around} {R : GenEnd} {Y : Protocol} {n : Nat} {s0 s : Shared} {c : Code} {α : Type} {m : Sem α} {K' : α → Sem PySem.Fin} {J' : Value → Sem PySem.Fin} {gd : Bool → Bool} {lv : List Value → List Value}
    (hA : A.over c [] = A') (h : wpAny (model P w) A' m (fun a s' => Seg (model P w) A R Y n s0 c (K' a) [] s') (fun _ _ => False) s) : Seg (model P w) A R Y n s0 c (m.wrap K' J' gd lv) [] s := by
  subst hA
  exact seg_wrap (wpAny_mono h (fun _ _ z => z) fun _ _ z => z.elim)
theorem g_loop {elt tg iter : Expr} {gpos : Pos} {it : Addr} {tn : Nat → Heap → Prop} {J : It} {g : TG} {te : TE} {vs : List Nat} {σ : L2.St} {Q : VK} {W : Nat → Nat → Hp → Prop} {cenv : Env} {X' : Cx}
    (hX : X' = gx X s H0 scope code fp (A.over (.compLoop (.GeneratorExp elt [⟨tg, iter, [], 0⟩] scope gpos) 0 (.ref it) .none cenv) []) pa) (hE : cenv = gEnv X s scope code) (hco : scope.isCoroutine = false)
    (T : Turn X.prog X.w X.K tg J fp it tn) (pg : PG X' tg g) (pe : PE X' elt te) (hpa : ∀ b ∈ fp, b ≠ pa.1) (tr : AllT J g te vs σ Q W) :
    ∀ (n m i : Nat) (s0 s1 : Shared), m < n → Zs X' fp tn (L2.wipe σ vs) W i m s1 →
      Seg (model X.prog X.w) A (RG X' (L2.wipe σ vs) Q) (YG X' pa fp tn (L2.wipe σ vs) W Q) n s0 (.compLoop (.GeneratorExp elt [⟨tg, iter, [], 0⟩] scope gpos) 0 (.ref it) .none cenv)
        ((model X.prog X.w).den (.compLoop (.GeneratorExp elt [⟨tg, iter, [], 0⟩] scope gpos) 0 (.ref it) .none cenv)) [] s1 := by
  have eA : X'.A = A.over (.compLoop (.GeneratorExp elt [⟨tg, iter, [], 0⟩] scope gpos) 0 (.ref it) .none cenv) [] := by rw [hX]
  have eP : X'.prog = X.prog := by rw [hX]
  have eW : X'.w = X.w := by rw [hX]
  have eK : X'.K = X.K := by rw [hX]
  have eC : X'.calm = true := by rw [hX]
  have eE : X'.env = cenv := by rw [hX, hE]
  have eX : X'.ex = fp := by rw [hX]
  have eXe : X'.xe = fun _ _ => False := by rw [hX]
  have eN : X'.N = X.N := by rw [hX]
  have stat : ∀ {σ' : L2.St} {H' : Hp} {s' : Shared}, Inv X' [] σ' H' s' → (∀ b ∈ fp, H' b = none) → (∀ b ∈ fp, b ≠ pa.1) → ∀ b ∈ fp, FpOk X' [] H' b := fun {σ' H' s'} I' hn hpa b hb => by
    have hb' : b ∈ X'.ex := by rw [eX]; exact hb
    refine ⟨hn b hb, (I'.ok.exf b hb').1, I'.ok.exfs b hb', .inl hb', (I'.ok.exf b hb').2, fun p hp => ?_⟩
    have hp : p = pa := by
      have z : p ∈ X'.pn ++ [] := hp
      rw [hX] at z
      simpa using z
    rw [hp]; exact Ne.symm (hpa b hb)
  intro n
  induction n with
  | zero => intro m i s0 s1 h; omega
  | succ n ih =>
    intro m i s0 s1 hm ⟨H1, I1, t1, n1, w1⟩
    have hh : (A.over (.compLoop (.GeneratorExp elt [⟨tg, iter, [], 0⟩] scope gpos) 0 (.ref it) .none cenv) []) = X'.A := eA.symm
    have back : ∀ {σ8 : L2.St} {H8 : Hp} {s8 : Shared} {pl : List (Addr × Obj)}, L2.wipe σ8 vs = L2.wipe σ vs → Inv X' ([] ++ pl) σ8 H8 s8 → Inv X' [] (L2.wipe σ vs) H8 s8 := fun {σ8 H8 s8 pl} hw I8 =>
      (I8.unpinned (pins := [])).weak (by rw [← hw, L2.wipe_length]) fun j v e => by
        rw [← hw] at e
        exact (wipe_some e).1
    show Seg _ A _ _ (n + 1) s0 _ ((compTurn (.GeneratorExp elt [⟨tg, iter, [], 0⟩] scope gpos) 0 (.ref it) .none cenv).onRaise (leaving cenv)) [] s1
    rw [compTurn_gen, Sem.onRaise_eq_wrap]
    refine seg_bind_wrap (wpAny_standAt ?_)
    rw [← eP, ← eW]
    rcases tr i m H1 w1 with ⟨stop, q⟩ | ⟨go, step⟩
    · have td := T.done X' eP eW eK eC i [] s1 _ H1 (fun _ _ => False) I1 (stat I1 n1 hpa) t1 stop
      rw [← eP, ← eW] at td
      refine sb hh (wpAny_mono td (fun r s6 ⟨hr, I6⟩ => ?_) fun _ _ z => z)
      subst hr
      exact seg_end (.ok .next) ⟨rfl, H1, I6, q⟩
    · have ti := T.item X' eP eW eK eC i [] s1 _ H1 (fun _ _ => False) I1 (stat I1 n1 hpa) t1 go
      rw [← eP, ← eW] at ti
      refine sb hh (wpAny_mono ti (fun r s6 ⟨u, hr, h6⟩ => ?_) fun _ _ z => z)
      subst hr
      refine sb hh (wpAny_mono h6 (fun _ s7 ⟨x, H7, I7, r7, y7, t7, n7⟩ => ?_) fun _ _ z => z)
      have I7' := I7.pinned (stat I7 n7 hpa) (T.obj _ _ t7)
      have ag := pg.run _ s7 _ H7 x u _ I7' r7 (step x H7 y7)
      rw [eE, eXe] at ag
      refine sb hh (wpAny_mono ag (fun _ s8 ⟨σ8, H8, I8, hw8, q8⟩ => ?_) fun _ _ z => z)
      refine sb hh (wpAny_tests_nil ?_)
      have hy : ∀ v, yieldOut cenv v = yieldValue v := fun v => by
        have e : cenv.scope.isCoroutine = false := by rw [hE]; exact hco
        simp only [yieldOut, e, Bool.false_eq_true, if_false]
      simp only [if_true, hy]
      rw [Sem.bind_eq_wrap', Sem.bind_eq_wrap', Sem.wrap_wrap, Sem.wrap_wrap]
      have ee := pe.run _ s8 σ8 H8 _ I8 q8
      rw [eE, eXe] at ee
      refine sw hh (wpAny_mono ee (fun y s9 ⟨yv, H9, I9, r9, b, hb, q9⟩ => ?_) fun _ _ z => z)
      subst hb
      have I9' := back hw8 I9
      have pin9 : ∀ b ∈ fp, ∀ o, s7.heap.get? b = some o → s9.heap.get? b = some o ∧ H9 b = none := fun b hb o e =>
        let z := I9.pin (b, o) (List.mem_append_right _ (List.mem_append_right _ (mem_pinsAt hb e)))
        ⟨z.1, z.2.1⟩
      refine seg_at (seg_yield rfl rfl rfl ⟨b, r9, I9.bare, (I9.pin pa (List.mem_append_left _ (by rw [hX]; exact List.mem_cons_self))).1, I9.nolimit, ?_⟩)
      cases b with
      | false => exact ⟨H9, I9', q9⟩
      | true =>
        obtain ⟨m', hm', w'⟩ := q9
        intro s'' h1 h2 h3
        have hk : ∀ b o, s9.heap.get? b = some o → s''.heap.get? b = some o := fun b o e => by rw [h1]; exact e
        have := ih m' (i + 1) s'' s'' (by omega) ⟨H9, inv_gens I9' hk h2 h3, T.keep _ _ _ t7 fun b hb o e => hk b o (pin9 b hb o e).1, fun b hb => ?_, w'⟩
        · rw [← eP, ← eW] at this
          exact seg_again rfl this
        · obtain ⟨o, e, _⟩ := T.obj _ _ t7 b hb
          exact (pin9 b hb o e).2
theorem g_start {elt tg iter : Expr} {gpos : Pos} {it : Addr} {tn : Nat → Heap → Prop} {J : It} {cenv : Env} {n : Nat} {s0 s1 : Shared} {R : GenEnd} {Y : Protocol}
    (T : Turn X.prog X.w X.K tg J fp it tn) (t1 : tn 0 s1.heap)
    (loop : Seg (model X.prog X.w) A R Y n s0 (.compLoop (.GeneratorExp elt [⟨tg, iter, [], 0⟩] scope gpos) 0 (.ref it) .none cenv) ((model X.prog X.w).den (.compLoop (.GeneratorExp elt [⟨tg, iter, [], 0⟩] scope gpos) 0 (.ref it) .none cenv)) [] s1) :
    Seg (model X.prog X.w) A R Y n s0 (.compStart (.GeneratorExp elt [⟨tg, iter, [], 0⟩] scope gpos) 0 (.ref it) .none cenv) ((model X.prog X.w).den (.compStart (.GeneratorExp elt [⟨tg, iter, [], 0⟩] scope gpos) 0 (.ref it) .none cenv)) [] s1 := by
  show Seg _ A _ _ n s0 _ ((compStart (.GeneratorExp elt [⟨tg, iter, [], 0⟩] scope gpos) 0 (.ref it) .none cenv).onRaise (leaving cenv)) [] s1
  unfold compStart
  rw [Sem.onRaise_eq_wrap]
  show Seg _ A _ _ n s0 _ ((ask >>= _).wrap _ _ _ _) [] s1
  refine seg_bind_wrap (wpAny_askSetting ?_)
  split
  · exact seg_again rfl loop
  · first
      | exact seg_bind_wrap (wpAny_rule (seg_bind_wrap (wpAny_standAt (seg_bind_wrap (T.self _ 0 s1 _ _ t1 (seg_again rfl loop))))))
      | (refine seg_bind_wrap (wpAny_rule ?_); show Seg _ A _ _ n s0 _ ((standAt iter.pos >>= _).wrap _ _ _ _) [] s1; exact seg_bind_wrap (wpAny_standAt (seg_bind_wrap (T.self _ 0 s1 _ _ t1 (seg_again rfl loop)))))
end
/-! ### who asks it: all(..) -/
theorem bare_set {s : Shared} {g : Nat} {x : GenState} (h : AllBare s.gens) (hx : x.bare = true) : AllBare (s.setGen g x).gens := fun y hy => by
  obtain ⟨i, hi, rfl⟩ := Array.mem_iff_getElem.mp hy
  have hi' : i < s.gens.size := by simpa [Shared.setGen] using hi
  by_cases e : g = i
  · subst e
    have : (s.setGen g x).gens[g] = x := by simp [Shared.setGen]
    rw [this]; exact hx
  · have : (s.setGen g x).gens[i] = s.gens[i] := by
      simp only [Shared.setGen]
      exact Array.getElem_setIfInBounds_ne _ e
    rw [this]; exact h _ (Array.getElem_mem hi')
section
variable {P : Program} {w : World} {A0 : Around} {X' : Cx} {pa : Addr × Obj} {fp : List Addr} {tn : Nat → Heap → Prop} {σ' : L2.St} {W : Nat → Nat → Hp → Prop} {Q : VK} {g : Nat}
noncomputable def IsG (pa : Addr × Obj) (g : Nat) : Prop := pa.2.cls = .type "generator" ∧ (∃ nm qn, pa.2.data = .fields #[.int (g : Int) 0, nm, qn]) ∧ pa.2.slots = #[]
noncomputable def GAt (P : Program) (w : World) (A0 : Around) (X' : Cx) (pa : Addr × Obj) (fp : List Addr) (tn : Nat → Heap → Prop) (σ' : L2.St) (W : Nat → Nat → Hp → Prop) (Q : VK) (g : Nat) (n : Nat) (s : Shared) : Prop :=
  s.heap.get? pa.1 = some pa.2 ∧ s.heap.NoLimit ∧ AllBare s.gens ∧ ∃ gs, s.gens[g]? = some gs ∧ ∀ s'' : Shared, s''.heap = s.heap → s''.os = s.os → AllBare s''.gens →
    gs.Goes (model P w) A0.in1.in1 (RG X' σ' Q) (YG X' pa fp tn σ' W Q) n (.send .none) s''
theorem all_loop {R : Result → Shared → Prop} (hG : IsG pa g) (hd : A0.handled = none) (hdp : A0.depth < recursionLimit) (hR : ∀ b s1, Ze X' σ' Q b s1 → R (.ok (.ret (.bool b))) s1) :
    ∀ (n : Nat) (s : Shared), GAt P w A0 X' pa fp tn σ' W Q g n s → codeAny (model P w) A0 (.builtin "all.loop" ⟨[.ref pa.1], []⟩) R s := by
  have moved : ∀ {b : Bool} {s1 s2 : Shared}, Ze X' σ' Q b s1 → (∀ b o, s1.heap.get? b = some o → s2.heap.get? b = some o) → s2.os = s1.os → AllBare s2.gens → Ze X' σ' Q b s2 := fun ⟨H, I, q⟩ h1 h2 h3 => ⟨H, inv_gens I h1 h2 h3, q⟩
  intro n
  induction n with
  | zero =>
    intro s ⟨hp, hl, hb, gs, hgs, hgo⟩
    have hlt : g + 1 ≤ s.gens.size := (Array.getElem?_eq_some_iff.mp hgs).1
    have hg : s.heap.IsGen pa.1 g := by obtain ⟨h1, ⟨nm, qn, h2⟩, h3⟩ := hG; exact ⟨_, nm, qn, hp, h1, h2, h3⟩
    refine codeAny_builtin F.entry_all_loop ?_
    rw [Around.under_plainId F.plain_all_loop _]
    show wpAny _ A0.in1 (pyNext (.ref pa.1) >>= _) _ _ s
    refine wpAny_bind (wpAny_pyNext_genexpQ (A := A0.in1) (n := 0) (P := fun _ _ s1 => Ze X' σ' Q true s1) (Y := YG X' pa fp tn σ' W Q) hd hl hdp hg hgs (hgo _ rfl rfl (bare_set hb rfl)) (fun v s1 gs' hbr hv => ?_) (fun s1 hp' h' hk => ?_))
    · obtain ⟨b, rfl, hb1, hp1, hl1, hc⟩ := hv
      refine wpAny_bind (wpAny_holding (wpAny_truthy_bool ?_))
      refine wpAny_bind (wpAny_letGo ?_)
      cases b with
      | true => exact (hc s1 rfl rfl hb1).elim
      | false =>
        simp only [Bool.false_eq_true, if_false]
        exact wpAny_bind (wpAny_rule (wpAny_pure (hR false _ (moved hc (fun _ _ e => e) rfl (bare_set hb1 hbr)))))
    · exact wpAny_bind (wpAny_rule (wpAny_pure (hR true _ (by
        obtain ⟨H, I, q⟩ := id hp'
        exact moved hp' hk rfl (bare_set I.bare rfl)))))
  | succ n ih =>
    intro s ⟨hp, hl, hb, gs, hgs, hgo⟩
    have hlt : g + 1 ≤ s.gens.size := (Array.getElem?_eq_some_iff.mp hgs).1
    have hg : s.heap.IsGen pa.1 g := by obtain ⟨h1, ⟨nm, qn, h2⟩, h3⟩ := hG; exact ⟨_, nm, qn, hp, h1, h2, h3⟩
    refine codeAny_builtin F.entry_all_loop ?_
    rw [Around.under_plainId F.plain_all_loop _]
    show wpAny _ A0.in1 (pyNext (.ref pa.1) >>= _) _ _ s
    refine wpAny_bind (GenW.wpAny_gsz hlt (wpAny_pyNext_genexpQ (A := A0.in1) (n := n + 1) (P := fun _ _ s1 => Ze X' σ' Q true s1) (Y := YG X' pa fp tn σ' W Q) hd hl hdp hg hgs (hgo _ rfl rfl (bare_set hb rfl)) (fun v s1 gs' hbr hv hsz => ?_) (fun s1 hp' h' hk hsz => ?_)))
    · obtain ⟨b, rfl, hb1, hp1, hl1, hc⟩ := hv
      refine wpAny_bind (wpAny_holding (wpAny_truthy_bool ?_))
      refine wpAny_bind (wpAny_letGo ?_)
      cases b with
      | true =>
        simp only [if_true]
        refine wpAny_pure ⟨plainId_quiet F.plain_all_loop _, ih _ ⟨hp1, hl1, bare_set hb1 hbr, gs', ?_, fun s'' h1 h2 h3 => hc s'' h1 h2 h3⟩⟩
        have hz : g < s1.gens.size := by
          have := hsz
          simp only [Shared.setGen, Array.size_setIfInBounds] at this
          exact this
        simp [Shared.setGen, hz]
      | false =>
        simp only [Bool.false_eq_true, if_false]
        exact wpAny_bind (wpAny_rule (wpAny_pure (hR false _ (moved hc (fun _ _ e => e) rfl (bare_set hb1 hbr)))))
    · exact wpAny_bind (wpAny_rule (wpAny_pure (hR true _ (by
        obtain ⟨H, I, q⟩ := id hp'
        exact moved hp' hk rfl (bare_set I.bare rfl)))))
theorem call_all {s : Shared} {Qf : Value → Shared → Prop} {E : Value → Shared → Prop} {n : Nat} (hG : IsG pa g) (hd : A0.handled = none) (hdp : A0.depth < recursionLimit) (h : GAt P w A0 X' pa fp tn σ' W Q g n s) (hQ : ∀ b s1, Ze X' σ' Q b s1 → Qf (.bool b) s1) :
    wpAny (model P w) A0 (call (.builtin "all") [.ref pa.1]) Qf E s := by
  refine call_function_tree F.kind_all F.plain_all F.entry_all (F.args_all1 _) ?_
  unfold Builtin.«all»
  refine wpAny_bind (m := oneArg "all" _) (wpAny_pure ?_)
  have hg : s.heap.IsGen pa.1 g := by obtain ⟨h1, ⟨nm, qn, h2⟩, h3⟩ := hG; exact ⟨_, nm, qn, h.1, h1, h2, h3⟩
  refine wpAny_bind (wpAny_pyIter_gen hg ?_)
  exact wpAny_pure ⟨plainId_quiet F.plain_all_loop _, all_loop hG hd hdp (fun b s1 z => hQ b s1 z) n s h⟩
end
/-! ### the rule -/
noncomputable def tAllG (P : Addr) (wi : TI) (g : TG) (te : TE) (vs : List Nat) : TE := fun σ H Q => wi σ H fun J H1 => TabG H1 P ∧ ∀ H2, Tabbed P H1 H2 → ∃ W : Nat → Nat → Hp → Prop, (∃ m, W 0 m H2) ∧ AllT J g te vs σ Q W
structure GScp (X : Cx) (scope : Scope) (own : List (Str × Nat)) : Prop where
  ok : BlkOk X.N X.env.scope scope own
  nc : ∀ y ∈ scope.names, y.2 ≠ .cell
  co : scope.isCoroutine = false
  dot : scope.names.lookup (".0" : Str) = some NameKind.local
theorem all_boot : bootBuiltins "all" = some (.builtin "all") := by decide +kernel
theorem pe_allG {X : Cx} {k : Nat} {c P : Addr} {elt tg iter : Expr} {scope : Scope} {own : List (Str × Nat)} {gpos p pos : Pos} {wi : TI} {g : TG} {te : TE}
    (hr : Room (k + 4) X.A) (hgl : Gl X "all") (hm : X.mg "all" = none) (TB : TabB X.base X.mg c P) (hcode : X.env.code = .ref c) (hN : X.N.Nodup) (gs : GScp X scope own) (hi : PI X tg iter wi)
    (hg : ∀ (s : Shared) (H : Hp) (code : Value) (fp : List Addr) (A' : Around) (pa : Addr × Obj), PG (gx X s H scope code fp A' pa) tg g) (he : ∀ (s : Shared) (H : Hp) (code : Value) (fp : List Addr) (A' : Around) (pa : Addr × Obj), Room k A' → PE (gx X s H scope code fp A' pa) elt te)
    (hs : ∀ v, genFold iter X.env v = pure v) (h0 : starEach [.GeneratorExp elt [⟨tg, iter, [], 0⟩] scope gpos] X.env = (false, eval (.GeneratorExp elt [⟨tg, iter, [], 0⟩] scope gpos) X.env) :: starEach [] X.env := by rfl) :
    PE X (.Call (.Name "all" p) [.GeneratorExp elt [⟨tg, iter, [], 0⟩] scope gpos] [] pos) (tAllG P wi g te (own.map (·.2))) := by
  refine ⟨fun pins s σ H Q I h => ?_⟩
  refine wpAny_Call_Name_kw (ld_blt I hgl hm all_boot ?_)
  refine PyProof.Rows.callWith_builtin1 ?_ h0 (by rfl)
  rw [h0]
  show wpAny _ _ (spliced ((false, eval (.GeneratorExp elt [⟨tg, iter, [], 0⟩] scope gpos) X.env) :: backTo pos (starEach [] X.env))) _ _ s
  have hfree : ∀ y ∈ scope.names, y.2 = .free → ∃ c, X.env.cells.lookup y.1 = some c := fun y hy e => I.ok.has _ (gs.ok.free y hy e)
  refine Calls.spliced_cons (wpAny_GeneratorExp_make gs.co (closure_ok hfree) gs.nc gs.dot gs.ok.kind hr.depth ?_ hs)
  refine thn (hi.run pins s σ H _ I h) fun xv s1 hx => thn hx fun itv s2 h2 => ?_
  obtain ⟨it, fp, tn, J, H2, rfl, I2, T, st2, f2, ⟨ps, hP, ht⟩, q⟩ := h2
  refine ⟨I2.nolimit, ?_⟩
  have hPs : s2.heap.get? P = some { cls := .none, data := .fields ps } := I2.hok P _ hP
  have cd : PySem.W.CodeHd s2.heap c P := TB.code.keeps fun b u e => I2.bk b u e
  have szf : ∀ b ∈ fp, b < s2.heap.objs.size := fun b hb => by
    obtain ⟨o, e, _⟩ := T.obj _ _ st2 b hb
    exact Heap.lt_size e
  have cont : ∀ (code : Value) (h3 : Heap) (tk : Nat) (more : Array Value), Inv X pins σ (upd H2 P (.tbl (ps ++ more))) { s2 with heap := h3, toks := tk } → (∀ b o, b ≠ P → s2.heap.get? b = some o → h3.get? b = some o) → s2.heap.objs.size ≤ h3.objs.size → TriplesOk (ps ++ more).toList →
      wpAny (model X.prog X.w) X.A (builtinsFor X.env.globals X.env.builtins) (fun bi s₄ =>
        ∀ h', h'.Ns s₄.heap.objs.size (fun y => if y = ".0" then some (.ref it) else none) → Heap.SameBut s₄.heap.objs.size (s₄.heap.push { cls := .type "frame", data := .dict #[] }) h' →
          wpAny (model X.prog X.w) X.A (spliced (backTo pos (starEach [] X.env))) (fun vs s₅ => wpAny (model X.prog X.w) X.A (call (.builtin "all") (.ref h'.objs.size :: vs)) (EP X pins σ Q) X.xe s₅) X.xe { s₄ with
            gens := s₄.gens.push (.fresh (.compStart (.GeneratorExp elt [⟨tg, iter, [], 0⟩] scope gpos) 0 (.ref it) .none (genEnv scope (cloFrom X.env.cells scope.names []) s₄.heap.objs.size code bi X.env))),
            toks := s₄.toks + 1 + 1 + 1,
            heap := h'.push { cls := .type "generator", data := .fields #[.int s₄.gens.size 0, .str "<genexpr>" (s₄.toks + 1), .str (X.env.qual ++ "<genexpr>") (s₄.toks + 1 + 1)] } }) X.xe { s2 with heap := h3, toks := tk } := by
    intro code h3 tk more I3 k3 z3 ht3
    generalize hs3 : ({ s2 with heap := h3, toks := tk } : Shared) = s3 at I3
    generalize hH3 : upd H2 P (.tbl (ps ++ more)) = H3 at I3
    have e3 : s3.heap = h3 := by rw [← hs3]
    obtain ⟨W, ⟨m0, w0⟩, tr⟩ := q H3 ⟨⟨ps ++ more, by rw [← hH3, upd_same], ht3⟩, fun b hb => by rw [← hH3, upd_ne hb]⟩
    obtain ⟨bm, ob, b1, b2, b3, b4, b5, b6, b7, b8⟩ := TB.bm
    have npf : ∀ b ∈ fp, b ≠ P := fun b hb z => by
      have := (f2 b hb).1
      rw [z, hP] at this; cases this
    have f3 : ∀ b ∈ fp, FpOk X pins H3 b ∧ b < s3.heap.objs.size := fun b hb => ⟨⟨by rw [← hH3, upd_ne (npf b hb)]; exact (f2 b hb).1, (f2 b hb).2⟩, by rw [e3]; exact Nat.lt_of_lt_of_le (szf b hb) z3⟩
    have t3 : tn 0 s3.heap := T.keep _ _ _ st2 fun b hb o e => by rw [e3]; exact k3 b o (npf b hb) e
    refine wpAny_builtinsFor (m := X.mg) (by rw [I3.ok.glob]; exact I3.mod.glob.keeps I3.bk) b1 b2 (I3.bk _ _ b5) b6 b7 b8 ?_
    intro h' hn' hs'
    have sz' : h'.objs.size = s3.heap.objs.size + 1 := by rw [hs'.1, Heap.size_push]
    generalize hob : ({ cls := .type "generator", data := .fields #[.int s3.gens.size 0, .str "<genexpr>" (s3.toks + 1), .str (X.env.qual ++ "<genexpr>") (s3.toks + 1 + 1)] } : Obj) = gob
    have k5 : ∀ b o, s3.heap.get? b = some o → (h'.push gob).get? b = some o := fun b o e => Heap.get?_push_of_some _ (hs'.extBut b o (Nat.ne_of_lt (Heap.lt_size e)) (Heap.get?_push_of_some _ e))
    have ga : (h'.push gob).get? h'.objs.size = some gob := Heap.get?_push_size _ (by rw [← hob]; rfl)
    have bareP : AllBare (s3.gens.push (.fresh (.compStart (.GeneratorExp elt [⟨tg, iter, [], 0⟩] scope gpos) 0 (.ref it) .none (gEnv X s3 scope code)))) := fun y hy => by
      rcases Array.mem_push.mp hy with z | z
      · exact I3.bare y z
      · rw [z]; rfl
    have hA3 : (X.A.in1.in1.over (.compLoop (.GeneratorExp elt [⟨tg, iter, [], 0⟩] scope gpos) 0 (.ref it) .none (gEnv X s3 scope code)) []) = X.A.in1.in1.deeper (gEnv X s3 scope code) := by
      first
        | rfl
        | simp [Around.over, Around.deeper, marksOver, frameCount, unitsOf, envsOf, guardsOf, pushEnvs, pushGuards, Code.envs, Code.env?, Code.isFrame, Code.guards, Code.isGuard, Code.weight, Code.frames, Code.isCreation, Code.isCaller, Code.cUnits]
    have hd3 : (X.A.in1.in1.deeper (gEnv X s3 scope code)).handled = none := hr.hd
    have hf3 : (X.A.in1.in1.deeper (gEnv X s3 scope code)).frames = some (gEnv X s3 scope code :: X.stack) := by
      show X.A.frames.map (fun x => gEnv X s3 scope code :: x) = _
      rw [I3.ok.frames]; rfl
    have room : Room k (X.A.in1.in1.deeper (gEnv X s3 scope code)) := ((hr.mono (by omega : k + 3 ≤ k + 4)).in1.in1).deeper (gEnv X s3 scope code)
    have lt5 : s3.heap.objs.size < h'.objs.size := by rw [sz']; exact Nat.lt_succ_self _
    have IX := gstart (t5 := s3.toks + 1 + 1 + 1) I3 gs.ok gs.nc hN f3 hd3 hf3 k5 (hn'.push _) bareP lt5 ga (by rw [← hob]; intro v z; cases z)
    generalize hX' : gx X s3 H3 scope code fp (X.A.in1.in1.deeper (gEnv X s3 scope code)) (h'.objs.size, gob) = X' at IX
    refine Calls.spliced_nil ?_
    refine call_all (P := X.prog) (w := X.w) (A0 := X.A) (X' := X') (pa := (h'.objs.size, gob)) (fp := fp) (tn := tn) (σ' := L2.wipe σ (own.map (·.2))) (W := W) (Q := Q) (g := s3.gens.size) (n := m0 + 1) ⟨by rw [← hob], by rw [← hob]; exact ⟨_, _, rfl⟩, by rw [← hob]⟩ hr.hd hr.depth ?_ fun b s6 ⟨H6, I6, q6⟩ => ?_
    · refine ⟨ga, I3.nolimit.keeps k5, bareP, _, Array.getElem?_push_size .., fun s'' h1 h2 h3 => ⟨rfl, ?_⟩⟩
      have hk : ∀ b o, (h'.push gob).get? b = some o → s''.heap.get? b = some o := fun b o e => by rw [h1]; exact e
      have I7 : Inv X' [] (L2.wipe σ (own.map (·.2))) H3 s'' := inv_gens IX hk h2 h3
      have t7 : tn 0 s''.heap := T.keep _ _ _ t3 fun b _ o e => hk b o (k5 b o e)
      refine g_start T t7 ?_
      refine g_loop (X := X) (s := s3) (H0 := H3) (scope := scope) (code := code) (fp := fp) (A := X.A.in1.in1) (pa := (h'.objs.size, gob)) (J := J) (g := g) (te := te) (vs := own.map (·.2)) (σ := σ) (Q := Q) (W := W) (X' := X') (by rw [hA3, ← hX']) rfl gs.co T ?_ ?_ (fun b hb => Nat.ne_of_lt (Nat.lt_trans (f3 b hb).2 lt5)) tr (m0 + 1) m0 0 s'' s'' (Nat.lt_succ_self _) ⟨H3, I7, t7, fun b hb => (f3 b hb).1.1, w0⟩
      · rw [← hX']; exact hg s3 H3 code fp _ _
      · rw [← hX']; exact he s3 H3 code fp _ _ room
    · rw [← hX'] at I6
      refine ⟨.bl b, H6, I3.call' (ch := fp) I6.os I6.base I6.hok I6.bare fun y hy => ⟨(f3 y hy).1.2.2.2.1, (f3 y hy).1.2.1, (f3 y hy).1.2.2.2.2.1, (f3 y hy).1.2.2.2.2.2⟩, rfl, q6⟩
  cases hf : codeAmong gpos ps.toList with
  | none =>
    refine wpAny_genexprCodeX hcode (cd.code hPs ht) (cd.tab hPs) hf fun c' h' tk hx hge hlt hco' _ htab' _ => ?_
    obtain ⟨o1, vs, f1, tf, fl, tgg, inF, tx, tt, op, _, _, _, _, _, _, _, _, _, htr, _⟩ := hco'
    exact cont _ h' tk _ (GxR.inv_tab (g' := s2.gens) (d' := s2.drawn) I2 hP (fun b o hb e => hx b o hb e) htab'.2 I2.bare) (fun b o hb e => hx b o hb e) (Nat.le_trans hge (Nat.le_of_lt hlt)) htr
  | some cv =>
    refine wpAny_genexprCode_hit hcode (cd.code hPs ht) hf ?_
    have := cont cv s2.heap s2.toks #[] (by rw [Array.append_empty, show upd H2 P (.tbl ps) = H2 by funext b; unfold upd; split <;> simp_all]; exact I2) (fun b o _ e => e) (Nat.le_refl _) (by rw [Array.append_empty]; exact ht)
    exact this
end Oh
namespace Oh
open PySem PySem.Spec PyProof.Rows L2 Evl
open GxR (TabB TabG Tabbed)
noncomputable def allD (k : D → Option D) : List D → Option D
  | [] => some (.bl true)
  | x :: xs => (k x).bind fun y => (asB y).bind fun b => if b = true then allD k xs else some (.bl false)
section
variable {K : PySem.W.Frag} {cl : Cl} {S S1 : List Sl} {te : TE}
theorem Nxt.table {G H H2 : Hp} {P : Addr} (gh : Ex G H) (hP : TabG H P ∧ G P = none) (t : Tabbed P H H2) : Nxt G H G H2 := by
  obtain ⟨⟨ps, e, ok⟩, gn⟩ := hP
  obtain ⟨⟨ps2, e2, ok2⟩, off⟩ := t
  refine ⟨Ex.refl _, ⟨fun a u n h => ?_, fun a qs h => ?_⟩, fun a u h => ?_, fun _ h => .inl h⟩
  · by_cases z : a = P
    · subst z
      rw [e] at h; cases h
      exact absurd rfl (n.nt ps)
    · rw [off a z]; exact h
  · by_cases z : a = P
    · subst z
      exact ⟨ps2, e2, fun _ => ok2⟩
    · exact ⟨qs, by rw [off a z]; exact h, id⟩
  · by_cases z : a = P
    · subst z; rw [gn] at h; cases h
    · rw [off a z]; exact gh a u h
theorem ev_allG {P : Addr} {wi : TI} {g : TG} {mi : Option (List D)} {vs : List Nat} {γ' : Type} {f : D → Option γ'} {st : γ' → List Sl → List Sl} {ke : γ' → Option D} {S4 : γ' → List Sl} (hP : P ∈ cl.t) (hi : IV K cl wi S mi S1) (hg : GV K cl g f st) (hw : GW g vs)
    (he : ∀ c, EV K cl te (st c (noOw (wipeS S1 vs))) (ke c) (S4 c)) : EV K cl (tAllG P wi g te vs) S (mi.bind fun xs => allD (fun x => (f x).bind fun c => ke c) xs) S1 := fun B G H σ I z e Q q => by
  obtain ⟨xs, ex, e⟩ := bind_some e
  refine hi B G H σ I xs ex _ fun J G1 H1 I1 g1 h1 ok => ⟨(I1.tab P hP).1, fun H2 tb => ?_⟩
  have n2 := Nxt.table I1.nxt.gh (I1.tab P hP) tb
  have I2 := I1.step n2
  refine ⟨fun i n H' => n + i = xs.length ∧ ∃ G', allD (fun x => (f x).bind fun c => ke c) (xs.drop i) = some z ∧ Nxt G1 H2 G' H', ⟨xs.length, rfl, G1, e, Nxt.refl I2.nxt.gh⟩, ?_⟩
  rintro i n H' ⟨hn, G', er, n1⟩
  have I' := I2.step n1
  by_cases hl : i < xs.length
  · have hx : xs[i]? = some xs[i] := List.getElem?_eq_getElem hl
    rw [drop_cons hx] at er
    obtain ⟨y, ey, er⟩ := bind_some er
    obtain ⟨b, eb, er⟩ := bind_some er
    obtain ⟨c, ec, ey⟩ := bind_some ey
    refine .inr ⟨ok.go i G' H' hl n1.g I'.nxt.gh, fun v H3 hy => ?_⟩
    obtain ⟨G2, nx, rv⟩ := ok.yld i _ G' H' v H3 hx n1.g I'.nxt.gh hy
    have I3 := I'.step nx
    have IW := (I3.wipe vs).own
    refine hw v (L2.wipe σ vs) H3 (fun σ3 H4 => Sig K cl ⟨G2, H3⟩ G2 H3 (st c (noOw (wipeS S1 vs))) σ3 ∧ H4 = H3) _ (hg ⟨G2, H3⟩ G2 H3 (L2.wipe σ vs) _ IW v _ c rv ec _ fun σ3 I4 => ⟨I4, rfl⟩) fun σ3 H4 hj hlen ⟨I4, e4⟩ => ?_
    subst e4
    refine ⟨(wipe_congr hlen hj).trans (wipe_congr (by rw [L2.wipe_length]) fun j hj => wipe_out2 hj), ?_⟩
    refine he c ⟨G2, H4⟩ G2 H4 σ3 I4 y ey _ fun w G5 H5 I5 g5 h5 rw5 => ⟨b, rep_B rw5 eb, ?_⟩
    have n5 : Nxt G1 H2 G5 H5 := n1.trans (nx.trans I5.nxt)
    cases b with
    | true => exact ⟨n - 1, by omega, by omega, G5, er, n5⟩
    | false =>
      have er : some (D.bl false) = some z := er
      cases er
      exact q _ G5 H5 (I2.step n5) (g1.trans n5.g) (h1.trans (n2.h.trans n5.h)) .bl
  · refine .inl ⟨?_, ?_⟩
    · have e1 : i = xs.length := by omega
      rw [e1]; exact ok.stop G' H' n1.g I'.nxt.gh
    · rw [drop_end (by omega)] at er
      have er : some (D.bl true) = some z := er
      cases er
      exact q _ G' H' I' (g1.trans n1.g) (h1.trans (n2.h.trans n1.h)) .bl
end
/-! ### defs whose code is known -/
structure FunC (K : PySem.W.Frag) (x qual : Str) (st : Stmt) (f : Addr) (fd : FuncData) (c : Addr) : Prop where
  ex : ∃ (oc : Value) (od : Option Addr) (kV doc pm : Value) (an : Option Addr) (ct : Value) (osl : Array (Option Value)),
    fd = PySem.W.fnOf x qual (defArgs st) (defBody st) (defScope st) .none kV doc pm an (.ref c) ct ∧ K.lookup f = some ⟨oc, od, .func fd, osl⟩ ∧ PySem.W.codeIn K (.ref c) qual = true
  kp : PySem.W.keepIn K (.ref f) = true
section
variable {P : Program} {w : World} {K : PySem.W.Frag} {cl : Cl} {mg : Str → Option Value} {base : Heap}
theorem FunC.fn {x qual : Str} {st : Stmt} {f c : Addr} {fd : FuncData} (F : FunC K x qual st f fd c) : Fun K x qual st f fd := by
  obtain ⟨oc, od, kV, doc, pm, an, ct, osl, h⟩ := F.ex
  exact ⟨⟨oc, od, kV, doc, pm, an, _, ct, osl, h⟩, F.kp⟩
theorem fun_conC {x qual : Str} {st : Stmt} {fa c : Addr} {fd : FuncData} {N ps : List Str} {k n : Nat} {f : List D → Option D}
    (F : FunC K x qual st fa fd c) (SC : FnScope N ps (defScope st)) (hn : ps.length = n) (ar : ∀ ds d, f ds = some d → ds.length = n) (hm : mg x = some (.ref fa)) (hb : Binds K fd ps [])
    (body : ∀ (A : Around) (outer : List Env) (s : Shared) (H : Hp) (E : XK), Room k (A.deeper (envOfC qual (defScope st) s.heap.objs.size fa (.ref c))) →
      ∃ t, PSs (cxOf CX0 P w K mg base N qual (defScope st) fa (.ref c) A outer s H E).nox (defBody st) t ∧ ∀ ds : List D, ds.length = n → TV K cl t (ds.map .vl ++ List.replicate (N.length - n) .jk) true (f ds)) : Con P w K cl mg base (k + 1) x f fa fd ps := by
  obtain ⟨oc, od, kV, doc, pm, an, ct, osl, rfl, lk, hcd⟩ := F.ex
  refine ⟨fn_of lk hcd SC (fun vs H Q E h => ?_) fun A outer s H vs Q E hr h => ?_, hm, F.kp, hb⟩
  · obtain ⟨G, ds, d, _, _, rs, e, _⟩ := h
    rw [rs.length, ar ds d e, hn]
  · obtain ⟨G, ds, d, gh, tb, rs, e, q⟩ := h
    obtain ⟨t, hp, ht⟩ := body A outer s H E hr
    have hl := ar ds d e
    have hv : vs.length = n := rs.length.trans hl
    refine ⟨t, hp.nox, ?_⟩
    have e0 : L2.start N vs = vs.map some ++ List.replicate (N.length - n) none := by unfold L2.start; rw [hv]
    rw [e0]
    refine ht ds hl ⟨G, H⟩ G H _ ⟨Nxt.refl gh, by simp [rs.length], tb, fun _ => [], fun i s hs => ?_, fun _ _ _ _ _ _ z => nomatch z⟩ d e _ (fun v G' H' nx r => q v G' H' nx r) (fun _ hd σ' G' H' nx => ?_)
    · obtain ⟨o, h1, h2⟩ := slot_start rs hs
      refine ⟨o, h1, ?_⟩
      rcases h2 with rfl | ⟨v, d', rfl, rfl, rv⟩
      · rfl
      · exact ⟨rfl, v, rfl, rv⟩
    · subst hd
      exact q .non G' H' nx .non
end

theorem fun_mkC {K : PySem.W.Frag} {x qual : Str} {st : Stmt} {f c : Addr} {oc : Value} {od : Option Addr} {kV doc pm : Value} {an : Option Addr} {ct : Value} {osl : Array (Option Value)}
    (lk : K.lookup f = some ⟨oc, od, .func (PySem.W.fnOf x qual (defArgs st) (defBody st) (defScope st) .none kV doc pm an (.ref c) ct), osl⟩) (hc : PySem.W.codeIn K (.ref c) qual = true) (kp : PySem.W.keepIn K (.ref f) = true) :
    FunC K x qual st f (PySem.W.fnOf x qual (defArgs st) (defBody st) (defScope st) .none kV doc pm an (.ref c) ct) c := ⟨⟨oc, od, kV, doc, pm, an, ct, osl, rfl, lk, hc⟩, kp⟩
theorem lawAt_mk {l : PySem.W.OpenLaw} {w : World} {K : PySem.W.Frag} {k : Nat} {x : Str} {mg : Str → Option Value} {fa : Addr} {h : Heap} {fd : FuncData} (cl : Cl) (cs : List (Addr × Addr)) (ht : cl.t = cs.map (·.2))
    (hT : ∀ p ∈ cs, PySem.W.CodeHd h p.1 p.2 ∧ h.get? p.2 = some { cls := .none, data := .fields #[] }) (nT : ∀ p ∈ cs, K.lookup p.2 = none) (hb : ∀ (s : Shared) (u : Value), BindsTo s fd ⟨[u], []⟩ [(x, u)])
    (F : ∀ base : Heap, K.In base → base.Ns mainGlobals mg → (∀ p ∈ cs, TabB base mg p.1 p.2) → FnOk l.prog w K mg base CX0 k fa fd [x] (spLaw K cl.t)) : LamX.LawAtS l w K CX0 k 63 x mg fa h := by
  refine ⟨fd, cs, spLaw K cl.t, fun p hp => (hT p hp).2, nT, fun p hp => (hT p hp).1, hb, fun H a ns hl hbit hH hS => ?_, fun base hK hN tb => F base hK hN fun p hp => ⟨(tb p hp).code, (tb p hp).bm, (tb p hp).gP⟩⟩
  refine ⟨a, ns, rfl, fun b hb => ?_, hS, hl, fun _ => rfl⟩
  rw [ht] at hb
  obtain ⟨p, hp, rfl⟩ := List.mem_map.mp hb
  exact ⟨#[], hH p hp, trivial⟩
theorem gscp_by {X : Cx} {scope : Scope} {own : List (Str × Nat)} (ok : BlkOk X.N X.env.scope scope own) (nc : (scope.names.all fun y => y.2 != .cell) = true) (co : scope.isCoroutine = false) (dot : scope.names.lookup (".0" : Str) = some NameKind.local) : GScp X scope own :=
  ⟨ok, fun y hy e => by have := List.all_eq_true.mp nc y hy; rw [e] at this; exact absurd this (by decide), co, dot⟩
end Oh
namespace Oh
open PySem PySem.Spec PyProof.Rows L2 Evl
/-! ### an owned thing read for a while: a tuple of what cannot change -/
mutual
noncomputable def tupB : D → Bool
  | .non => true | .bl _ => true | .int _ => true | .str _ => true | .tup xs => tupBs xs | _ => false
noncomputable def tupBs : List D → Bool
  | [] => true
  | x :: xs => tupB x && tupBs xs
end
noncomputable def tkB : HO → Bool
  | .tup _ => true
  | .frz _ (.tup _) => true
  | _ => false
/-- G, and the tuples of G' -/
noncomputable def mixT (G G' : Hp) : Hp := fun a => match G a with | some u => some u | none => (G' a).filter tkB
section
variable {K : PySem.W.Frag} {cl : Cl} {G G' H H' : Hp}
theorem mixT_ex : Ex G (mixT G G') := fun a u h => by unfold mixT; rw [h]
theorem mixT_in (e : Ex G G') {a : Addr} {u : HO} (h : mixT G G' a = some u) : G' a = some u := by
  unfold mixT at h
  cases q : G a with
  | some w => rw [q] at h; cases h; exact e _ _ q
  | none =>
    rw [q] at h
    exact (Option.filter_eq_some_iff.mp h).1
theorem mixT_of (e : Ex G G') {a : Addr} {u : HO} (h : G' a = some u) (k : tkB u = true) : mixT G G' a = some u := by
  unfold mixT
  cases q : G a with
  | some w =>
    have := e _ _ q
    rw [h] at this; cases this; rfl
  | none => exact Option.filter_eq_some_iff.mpr ⟨h, k⟩
theorem mixT_sq (e : Ex G G') {a : Addr} {xs : List V} (h : SqT K G' a xs) : SqT K (mixT G G') a xs := by
  rcases h with (h | ⟨o, h⟩) | h
  · exact .inl (.inl (mixT_of e h rfl))
  · exact .inl (.inr ⟨o, mixT_of e h rfl⟩)
  · exact .inr h
mutual
theorem tup_rep (e : Ex G G') : ∀ (d : D) (v : V), tupB d = true → Rep K cl G' v d → Rep K cl (mixT G G') v d
  | .non, _, _, .non => .non
  | .bl _, _, _, .bl => .bl
  | .int _, _, _, .int => .int
  | .str _, _, _, .str => .str
  | .tup xs, _, h, .tup hs rs => .tup (mixT_sq e hs) (tup_reps e xs _ h rs)
  | .lst _, _, h, _ => nomatch h
  | .rol _, _, h, _ => nomatch h
  | .ob _ _, _, h, _ => nomatch h
  | .dic _, _, h, _ => nomatch h
  | .oba _ _ _, _, h, _ => nomatch h
  | .fn _ _ _, _, h, _ => nomatch h
theorem tup_reps (e : Ex G G') : ∀ (ds : List D) (vs : List V), tupBs ds = true → Reps K cl G' vs ds → Reps K cl (mixT G G') vs ds
  | [], _, _, .nil => .nil
  | d :: ds, _, h, .cons r t => .cons (tup_rep e d _ (Bool.and_eq_true_iff.mp h).1 r) (tup_reps e ds _ (Bool.and_eq_true_iff.mp h).2 t)
end
theorem Own.mk_kind {G H : Hp} : ∀ {sh v d A}, Own K cl G H sh v d A → ∀ p ∈ A, ∃ u, H p = some u ∧ tkB u = false ∧ NT u
  | .v, _, _, _, h, p, hp => by rw [h.1] at hp; cases hp
  | .l s, _, _, _, ⟨p, vs, ds, A', h1, h2, h3, h4, h5⟩, q, hq => by
    rw [h4] at hq
    rcases List.mem_cons.mp hq with z | z
    · subst z; exact ⟨_, h3, rfl, inferInstance⟩
    · exact h5.inH (fun v d A2 r p hp => Own.mk_kind r p hp) q z
  | .i p, _, _, _, ⟨dx, c, fs, ds, h1, h2, h3, h4, h5⟩, q, hq => by
    rw [h4] at hq
    rw [List.mem_singleton.mp hq]; exact ⟨_, h3, rfl, inferInstance⟩
  | .j po f, _, _, _, ⟨p, dx, c, fs, ds, A', h1, hp, h2, h3, h4, h5⟩, q, hq => by
    rw [h4] at hq
    rcases List.mem_cons.mp hq with z | z
    · subst z; exact ⟨_, h3, rfl, inferInstance⟩
    · exact h5.inH (fun n v d A2 r p hp => Own.mk_kind (sh := f n) r p hp) q z
  | .t f, _, _, _, ⟨p, vs, ds, h1, h2, h3, h5⟩, q, hq => h5.inH (fun n v d A2 r p hp => Own.mk_kind (sh := f n) r p hp) q hq
  | .d, _, _, _, h, q, hq => by obtain ⟨ws, e⟩ := OwnD.inL h q hq; exact ⟨_, e, rfl, inferInstance⟩
variable {B : Bs} {S : List Sl} {σ : L2.St} {te : TE} {m : Option D}
theorem Sig.lendT (I : Sig K cl B G H S σ) {i : Nat} {sh : Sh} {d : D} (h : S[i]? = some (.ow sh d)) (I' : Sig K cl B G' H' (S.set i (.vl d)) σ) (eg : Ex G G') (eh : Ex2 H H') : Sig K cl B (mixT G G') H' S σ := by
  obtain ⟨A, hs, ap⟩ := I.slots
  have inn : ∀ {a}, mixT G G' a ≠ none → G' a ≠ none := fun {a} z => by
    cases q : mixT G G' a with
    | none => exact absurd q z
    | some u => rw [mixT_in eg q]; simp
  refine ⟨⟨I.nxt.g.trans mixT_ex, I'.nxt.h, fun a u q => I'.nxt.gh a u (mixT_in eg q), fun p z => I'.nxt.fr p (inn z)⟩, I.len, fun a ha => ⟨(I'.tab a ha).1, ?_⟩, A, fun j s hj => ?_, ap⟩
  · cases q : mixT G G' a with
    | none => rfl
    | some u =>
      have := mixT_in eg q
      rw [(I'.tab a ha).2] at this; cases this
  · obtain ⟨o, h1, h2⟩ := hs j s hj
    refine ⟨o, h1, ?_⟩
    cases s with
    | jk => exact h2
    | vl d' =>
      obtain ⟨ea, v, e, r⟩ := h2
      exact ⟨ea, v, e, r.mono mixT_ex⟩
    | ow sh' d' =>
      obtain ⟨v, e, ow, nd, out⟩ := h2
      refine ⟨v, e, ow.step mixT_ex (fun p _ u _ hu => eh _ _ hu), nd, fun p hp => ⟨?_, (out p hp).2⟩⟩
      cases q : mixT G G' p with
      | none => rfl
      | some u =>
        obtain ⟨w, hw, kw, nw⟩ := ow.mk_kind p hp
        have e1 := eh _ _ hw
        have e2 := I'.nxt.gh _ _ (mixT_in eg q)
        rw [e1] at e2; cases e2
        unfold mixT at q
        rw [(out p hp).1] at q
        have := (Option.filter_eq_some_iff.mp q).2
        rw [kw] at this; cases this
end

/-! ### xs.index(x), numbers and texts -/
noncomputable def kyD : D → Option (Int ⊕ Str) | .int i => some (.inl i) | .str x => some (.inr x) | _ => none
noncomputable def kyV : Int ⊕ Str → V | .inl i => .int i | .inr x => .str x
noncomputable def kysD : List D → Option (List (Int ⊕ Str))
  | [] => some []
  | x :: xs => (kyD x).bind fun k => (kysD xs).bind fun ks => some (k :: ks)
noncomputable def dIndex (d x : D) : Option D := (asL d).bind fun xs => (kysD xs).bind fun ks => (kyD x).bind fun k => (ks.findIdx? fun y => decide (y = k)).map fun j => .int (j : Nat)
theorem ky_rep {K : PySem.W.Frag} {cl : Cl} {G : Hp} {v : V} {d : D} {k : Int ⊕ Str} (h : kyD d = some k) (r : Rep K cl G v d) : v = kyV k := by
  cases r <;> cases h <;> rfl
theorem kys_reps {K : PySem.W.Frag} {cl : Cl} {G : Hp} : ∀ {vs : List V} {ds : List D} {ks : List (Int ⊕ Str)}, kysD ds = some ks → Reps K cl G vs ds → vs = ks.map kyV
  | _, _, _, h, .nil => by cases h; rfl
  | _, _, _, h, .cons r t => by
    obtain ⟨k, ek, h⟩ := bind_some h
    obtain ⟨ks, eks, h⟩ := bind_some h
    cases h
    rw [ky_rep ek r, kys_reps eks t]; rfl
theorem ky_flat (k : Int ⊕ Str) : flatV (kyV k) = true := by cases k <;> rfl
theorem ky_eq (a b : Int ⊕ Str) : eqV (kyV a) (kyV b) = decide (a = b) := by
  cases a <;> cases b <;> (try rfl) <;> (rw [Bool.eq_iff_iff]; simp [kyV, eqV])
theorem ev_index {K : PySem.W.Frag} {cl : Cl} {S S1 S2 : List Sl} {te tx : TE} {m n : Option D} (h : EV K cl te S m S1) (hx : EV K cl tx S1 n S2) : EV K cl (tBM K "list" (rIndex K) te (tCons tx tNil)) S (m.bind fun d => n.bind fun x => dIndex d x) S2 := fun B G H σ I z e Q q => by
  obtain ⟨d, ed, e⟩ := bind_some e
  obtain ⟨x, ex, e⟩ := bind_some e
  obtain ⟨xs, exs, e⟩ := bind_some e
  obtain ⟨ks, eks, e⟩ := bind_some e
  obtain ⟨k, ek, e⟩ := bind_some e
  obtain ⟨j, ej, rfl⟩ := Option.map_eq_some_iff.mp e
  obtain ⟨hj, hj1, hj2⟩ := List.findIdx?_eq_some_iff_getElem.mp ej
  refine h B G H σ I d ed _ fun v G1 H1 I1 g1 h1 rv => ?_
  obtain ⟨a, vs, rfl, sq, rs⟩ : ∃ a vs, v = .ref a ∧ SqL K G1 a vs ∧ Reps K cl G1 vs xs := by
    cases rv with
    | lst hg rs => cases exs; exact ⟨_, _, rfl, sq_of hg, rs⟩
    | rol hg rs => cases exs; exact ⟨_, _, rfl, hg, rs⟩
    | _ => cases exs
  have ev := kys_reps eks rs
  subst ev
  refine ⟨Or.inl ⟨rfl, _, ex_l I1.nxt.gh sq⟩, hx B G1 H1 σ I1 x ex _ fun w G2 H2 I2 g2 h2 rw_ => ?_⟩
  have ew := ky_rep ek rw_
  subst ew
  refine ⟨a, ks.map kyV, kyV k, j, kyV ks[j], rfl, rfl, ex_l I2.nxt.gh (ex_l g2 sq), ky_flat k, ?_, ?_, ?_, fun m z' hm hz => ?_, q _ G2 H2 I2 (g1.trans g2) (h1.trans h2) .int⟩
  · rw [List.all_eq_true]
    intro y hy
    obtain ⟨k', _, rfl⟩ := List.mem_map.mp hy
    exact ky_flat k'
  · rw [List.getElem?_map, List.getElem?_eq_getElem hj]; rfl
  · rw [ky_eq]; exact hj1
  · rw [List.getElem?_map] at hz
    obtain ⟨k', hk', rfl⟩ := Option.map_eq_some_iff.mp hz
    have hml : m < ks.length := Nat.lt_trans hm hj
    rw [List.getElem?_eq_getElem hml] at hk'
    cases hk'
    rw [ky_eq]
    have := hj2 m hm
    simpa using this
/-! ### isinstance, a class of one's own -/
structure IsiF (K : PySem.W.Frag) (C : Addr) : Prop where
  ofc : PySem.W.findIn K (.ref C) "__class__" = some (some (.builtin "object.__class__"))
  get : PySem.W.specialIn K (.builtin "object.__class__") "__get__" = some (some (.builtin "getset_descriptor.__get__"))
  tak : PySem.W.takesIn K (.builtin "object.__class__") = some true
  mro : PySem.W.mroIn K C (.type "object") = some true
noncomputable def dIsO (c : Nat) : D → Option D | .ob k _ => if k = c then some (.bl true) else none | _ => none
theorem ev_isO {K : PySem.W.Frag} {cl : Cl} {S S1 : List Sl} {ta : TE} {m : Option D} {c : Nat} {fs : List Str} (F : ClsF K (cl.c c) fs) (N : IsiF K (cl.c c)) (ha : EV K cl ta S m S1) : EV K cl (tCB (rIsi K) (tCons ta (tCons (tC (.ref (cl.c c))) tNil))) S (m.bind (dIsO c)) S1 := fun B G H σ I z e Q q => by
  obtain ⟨a, ea, e⟩ := bind_some e
  refine ha B G H σ I a ea _ fun x G1 H1 I1 g1 h1 rx => ?_
  cases rx with
  | @ob a' dx k gs ds hg _ =>
    have e' : (if k = c then some (D.bl true) else none) = some z := e
    by_cases hk : k = c
    · subst hk
      rw [if_pos rfl] at e'
      cases e'
      exact ⟨_, _, _, _, true, rfl, .own _, .base (.ins (I1.nxt.gh _ _ hg) F.1 N.ofc N.get N.tak N.mro), by unfold PySem.W.kitOne; rw [if_pos (beq_self_eq_true _)], q _ G1 H1 I1 g1 h1 .bl⟩
    · rw [if_neg hk] at e'; cases e'
  | _ => exact nomatch e

end Oh
namespace Oh
open PySem PySem.Spec PyProof.Rows L2 Evl
/-! ### objects that are one's own and change: methods, fields that are lists -/
noncomputable def cutA (H : Hp) (A : List Addr) : Hp := fun a => if a ∈ A then none else H a
theorem cutA_in {H : Hp} {A : List Addr} {a : Addr} (h : a ∈ A) : cutA H A a = none := if_pos h
theorem cutA_out {H : Hp} {A : List Addr} {a : Addr} (h : a ∉ A) : cutA H A a = H a := if_neg h
section
variable {K : PySem.W.Frag} {cl : Cl} {G G' H H' : Hp} {B : Bs} {S S1 S2 S3 : List Sl} {σ : L2.St}
/-- an owned thing goes through a call, or is changed, and comes back as another one -/
theorem Sig.thru (I : Sig K cl B G H S σ) {i : Nat} {sh : Sh} {d : D} (h : S[i]? = some (.ow sh d)) :
    ∃ v A, σ[i]? = some (some v) ∧ Own K cl G H sh v d A ∧ A.Nodup ∧ (∀ p ∈ A, G p = none ∧ B.H p = none) ∧
      ∀ (G' H' : Hp) (sh' : Sh) (d' : D) (A' : List Addr), Nxt G (cutA H A) G' H' → Own K cl G' H' sh' v d' A' → A'.Nodup → (∀ p ∈ A', G' p = none ∧ (p ∈ A ∨ H p = none)) → Sig K cl B G' H' (S.set i (.ow sh' d')) σ := by
  obtain ⟨A, hs, ap⟩ := I.slots
  obtain ⟨o, h1, v, rfl, ow, nd, out⟩ := hs i _ h
  have hl : i < S.length := (List.getElem?_eq_some_iff.mp h).1
  refine ⟨v, A i, h1, ow, nd, out, fun G' H' sh' d' A' n ow' nd' new => ?_⟩
  have keep : ∀ a u, a ∉ A i → H a = some u → NT u → H' a = some u := fun a u ha e nt => n.h a u (by rw [cutA_out ha]; exact e)
  have back : ∀ p, G' p ≠ none → G p ≠ none ∨ H p = none ∨ p ∈ A i := fun p hp => by
    rcases n.fr p hp with h | h
    · exact .inl h
    · by_cases z : p ∈ A i
      · exact .inr (.inr z)
      · rw [cutA_out z] at h; exact .inr (.inl h)
  refine ⟨⟨I.nxt.g.trans n.g, ⟨fun a u _ e => ?_, fun a ps e => ?_⟩, n.gh, fun p hp => ?_⟩, by rw [List.length_set]; exact I.len, fun a ha => ?_, atA A i A', fun j s hj => ?_, fun j k ne hj hk p hp => ?_⟩
  · have e1 := I.nxt.h a u e
    exact keep a u (fun z => by rw [(out a z).2] at e; cases e) e1 ‹_›
  · obtain ⟨ps1, e1, k1⟩ := I.nxt.h.b a ps e
    obtain ⟨ps2, e2, k2⟩ := n.h.b a ps1 (by rw [cutA_out fun z => by rw [(out a z).2] at e; cases e]; exact e1)
    exact ⟨ps2, e2, fun z => k2 (k1 z)⟩
  · rcases back p hp with h | h | h
    · exact I.nxt.fr p h
    · exact .inr (I.nxt.h.back h)
    · exact .inr (out p h).2
  · obtain ⟨⟨ps, e, ok⟩, hg⟩ := I.tab a ha
    have na := ow.noT ⟨ps, e, ok⟩
    obtain ⟨ps2, e2, k2⟩ := n.h.b a ps (by rw [cutA_out na]; exact e)
    refine ⟨⟨ps2, e2, k2 ok⟩, ?_⟩
    cases q : G' a with
    | none => rfl
    | some u =>
      rcases back a (by rw [q]; simp) with h | h | h
      · exact absurd hg h
      · rw [e] at h; cases h
      · exact absurd h na
  · by_cases e : i = j
    · subst e
      rw [List.getElem?_set_self hl] at hj
      cases hj
      refine ⟨_, h1, ?_⟩
      rw [atA_e rfl]
      exact ⟨v, rfl, ow', nd', fun p hp => ⟨(new p hp).1, by
        rcases (new p hp).2 with z | z
        · exact (out p z).2
        · exact I.nxt.h.back z⟩⟩
    · rw [List.getElem?_set_ne e] at hj
      have hlj : j < S.length := (List.getElem?_eq_some_iff.mp hj).1
      obtain ⟨o, h2, h3⟩ := hs j s hj
      refine ⟨o, h2, ?_⟩
      rw [atA_n (fun z => e z.symm)]
      cases s with
      | jk => exact h3
      | vl d' =>
        obtain ⟨ea, v, e1, r⟩ := h3
        exact ⟨ea, v, e1, r.mono n.g⟩
      | ow sh2 d2 =>
        obtain ⟨v2, e1, ow2, nd2, out2⟩ := h3
        refine ⟨v2, e1, ow2.step n.g (fun p hp u nt hu => keep p u (ap j i (fun z => e z.symm) hlj hl p hp) hu nt), nd2, fun p hp => ⟨?_, (out2 p hp).2⟩⟩
        cases q : G' p with
        | none => rfl
        | some u =>
          rcases back p (by rw [q]; simp) with h | h | h
          · exact absurd (out2 p hp).1 h
          · exact absurd h (ow2.inH p hp)
          · exact absurd h (ap j i (fun z => e z.symm) hlj hl p hp)
  · rw [List.length_set] at hj hk
    have inH : ∀ j, j < S.length → ∀ p ∈ A j, H p ≠ none := fun j hj p hp => by
      obtain ⟨o, h1, h2⟩ := hs j S[j] (List.getElem?_eq_getElem hj)
      generalize S[j] = s at h2
      cases s with
      | jk => rw [h2] at hp; cases hp
      | vl d' => rw [h2.1] at hp; cases hp
      | ow sh' d' => obtain ⟨v', _, ow', _⟩ := h2; exact ow'.inH p hp
    by_cases ej : j = i
    · subst ej
      rw [atA_e rfl] at hp
      rw [atA_n (fun z => ne z.symm)]
      rcases (new p hp).2 with z | z
      · exact ap j k ne hj hk p z
      · exact fun y => inH k hk p y z
    · rw [atA_n ej] at hp
      by_cases ek : k = i
      · subst ek
        rw [atA_e rfl]
        intro y
        rcases (new p y).2 with z | z
        · exact ap j k ne hj hk p hp z
        · exact inH j hj p hp z
      · rw [atA_n ek]; exact ap j k ne hj hk p hp
theorem nxt_mut {A : List Addr} (gh : Ex G H) (hg : ∀ p ∈ A, G p = none) (k : ∀ p u, p ∉ A → H p = some u → H' p = some u) : Nxt G (cutA H A) G H' :=
  ⟨Ex.refl _, ⟨fun a u _ e => by
    by_cases z : a ∈ A
    · rw [cutA_in z] at e; cases e
    · rw [cutA_out z] at e; exact k a u z e, fun a ps e => by
    by_cases z : a ∈ A
    · rw [cutA_in z] at e; cases e
    · rw [cutA_out z] at e; exact ⟨ps, k a _ z e, id⟩⟩, fun a u e => k a u (fun z => by rw [hg a z] at e; cases e) (gh a u e), fun p h => .inl h⟩

/-! ### the fields, one of them taken out -/
theorem OwnF.spl {R : Str → V → D → List Addr → Prop} (n : Str) : ∀ {vs ds A}, OwnF R vs ds A → ∃ A0 Ar, A.Perm (A0 ++ Ar) ∧ (∀ d, ds.lookup n = some d → ∃ v, vs.lookup n = some v ∧ R n v d A0) ∧
    ∀ (R' : Str → V → D → List Addr → Prop) (v' : V) (d' : D) (A1 : List Addr), R' n v' d' A1 → (∀ m v d A2, A2 ⊆ Ar → R m v d A2 → R' m v d A2) → ∃ A', OwnF R' (putF n v' vs) (putD n d' ds) A' ∧ A'.Perm (A1 ++ Ar)
  | _, _, _, .nil => ⟨[], [], .refl _, fun d h => by simp at h, fun R' v' d' A1 r _ => ⟨A1 ++ [], .cons r .nil, .refl _⟩⟩
  | _, _, _, .cons (n := g) (v := v) (d := d) (A := Ag) (vs := vs) (ds := ds) (As := As) r t => by
    by_cases e : g = n
    · subst e
      refine ⟨Ag, As, .refl _, fun d0 h => ?_, fun R' v' d' A1 r' k => ⟨A1 ++ As, ?_, .refl _⟩⟩
      · rw [List.lookup_cons, BEq.rfl] at h
        cases h
        exact ⟨v, by rw [List.lookup_cons, BEq.rfl], r⟩
      · unfold putF putD
        rw [if_pos rfl, if_pos rfl]
        exact .cons r' (t.imp fun m v d A2 s q => k m v d A2 s q)
    · obtain ⟨A0, Ar, pm, lk, put⟩ := OwnF.spl n t
      have en : (n == g) = false := by rw [beq_eq_false_iff_ne]; exact fun z => e z.symm
      refine ⟨A0, Ag ++ Ar, ?_, fun d0 h => ?_, fun R' v' d' A1 r' k => ?_⟩
      · refine (pm.append_left Ag).trans ?_
        rw [← List.append_assoc, ← List.append_assoc]
        exact List.perm_append_comm.append_right Ar
      · rw [List.lookup_cons, en] at h
        obtain ⟨v0, h1, h2⟩ := lk d0 h
        exact ⟨v0, by rw [List.lookup_cons, en]; exact h1, h2⟩
      · obtain ⟨A', h1, h2⟩ := put R' v' d' A1 r' fun m v d A2 s q => k m v d A2 (fun _ hx => List.mem_append_right _ (s hx)) q
        refine ⟨Ag ++ A', ?_, ?_⟩
        · unfold putF putD
          rw [if_neg e, if_neg e]
          exact .cons (k _ _ _ _ (fun _ hx => List.mem_append_left _ hx) r) h1
        · refine (h2.append_left Ag).trans ?_
          rw [← List.append_assoc, ← List.append_assoc]
          exact List.perm_append_comm.append_right Ar
theorem OwnF.freps {f : Str → Sh} {n : Str} (hf : f n = .v) {v : V} {d : D} {A0 : List Addr} (h : Own K cl G H (f n) v d A0) : A0 = [] ∧ Rep K cl G v d := by
  rw [hf] at h; exact h
/-- o.f = e, the field stands for ever -/
theorem sv_fldJ {te : TE} {m : Option D} {i c : Nat} {po : Option Addr} {fs : Str → Sh} {f : Str} {as : List Str} {x : D} (T : ClsF K (cl.c c) as) (hf : f ∈ as) (hv : fs f = .v) (h0 : S1[i]? = some (.ow (.j po fs) x)) (h : EV K cl te S m S1) :
    SV K cl (sFld K (tVar i) te f) S (m.bind fun y => dStF c f x y) (fun b => S1.set i (.ow (.j po fs) b)) := fun B G H σ I d e Dn q => by
  obtain ⟨y, ey, e⟩ := bind_some e
  refine h B G H σ I y ey _ fun v G1 H1 I1 g1 h1 rv => ?_
  obtain ⟨w, A, hσ, ⟨p, dx, c', vs, ds, A', rfl, hpo, rfl, hp, rfl, ow⟩, nd, out, cls⟩ := I1.thru h0
  have e2 : (if c' = c ∧ ds.length < 1000 then some (D.ob c' (putD f y ds)) else none) = some d := e
  by_cases hc : c' = c ∧ ds.length < 1000
  · rw [if_pos hc] at e2
    obtain ⟨rfl, hl⟩ := hc
    cases e2
    refine ⟨.ref p, hσ, p, _, dx, vs, rfl, hp, T.c, T.n f hf, by rw [ow.len]; exact hl, ?_⟩
    obtain ⟨A0, Ar, pm, _, put⟩ := ow.spl f
    have np : p ∉ A' := (List.nodup_cons.mp nd).1
    obtain ⟨A2, ow2, pm2⟩ := put (fun n => Own K cl G1 (upd H1 p (.ins (cl.c c') dx (putF f v vs))) (fs n)) v y [] (by rw [hv]; exact ⟨rfl, rv⟩) fun m v d A2 s r => r.step (Ex.refl _) fun a ha u _ hu => by
      rw [upd_ne fun z => np (pm.mem_iff.mpr (List.mem_append_right _ (by rw [← z]; exact s ha)))]; exact hu
    have sub : ∀ a ∈ A2, a ∈ A' := fun a ha => pm.mem_iff.mpr (List.mem_append_right _ (pm2.mem_iff.mp ha))
    refine q σ G1 _ (cls G1 _ _ _ (p :: A2) (nxt_mut I1.nxt.gh (fun a ha => (out a ha).1) fun a u ha hu => by rw [upd_ne fun z => ha (by rw [z]; exact List.mem_cons_self)]; exact hu) ⟨p, dx, _, _, _, A2, rfl, hpo, rfl, upd_same, rfl, ow2⟩ ?_ fun a ha => ?_)
    · refine List.nodup_cons.mpr ⟨fun z => np (sub p z), pm2.nodup_iff.mpr ?_⟩
      have := (List.nodup_append.mp (pm.nodup_iff.mp (List.nodup_cons.mp nd).2)).2.1
      simpa using this
    · have : a ∈ p :: A' := by
        rcases List.mem_cons.mp ha with z | z
        · rw [z]; exact List.mem_cons_self
        · exact List.mem_cons_of_mem _ (sub a z)
      exact ⟨(out a this).1, .inl this⟩
  · rw [if_neg hc] at e2; cases e2
/-- o.f = e, all of the new thing is one's own -/
theorem sv_fldJO {te : TE} {m : Option D} {i c : Nat} {po : Option Addr} {fs : Str → Sh} {f : Str} {sh : Sh} {as : List Str} {x : D} (T : ClsF K (cl.c c) as) (hf : f ∈ as) (hv : fs f = sh) (h0 : S1[i]? = some (.ow (.j po fs) x)) (h : EVO K cl sh te S m S1) :
    SV K cl (sFld K (tVar i) te f) S (m.bind fun y => dStF c f x y) (fun b => S1.set i (.ow (.j po fs) b)) := fun B G H σ I d e Dn q => by
  obtain ⟨y, ey, e⟩ := bind_some e
  refine h B G H σ I y ey _ fun v G1 H1 I1 g1 h1 => ?_
  have hi : i < S1.length := (List.getElem?_eq_some_iff.mp h0).1
  have h0' : (S1 ++ [.ow sh y])[i]? = some (.ow (.j po fs) x) := by rw [List.getElem?_append_left hi]; exact h0
  -- what the last slot holds
  obtain ⟨AA, hs, ap⟩ := I1.slots
  have ln : σ.length = S1.length := by have := I1.len; rw [List.length_append, List.length_append] at this; exact Nat.add_right_cancel this
  obtain ⟨o1, k1, w, rfl, ⟨p, dx, c', vs, ds, A', rfl, hpo, rfl, hp, eA, ow⟩, nd, out⟩ := hs i _ h0'
  obtain ⟨o2, k2, v2, rfl, owv, ndv, outv⟩ := hs S1.length (.ow sh y) (by rw [List.getElem?_append_right (Nat.le_refl _), Nat.sub_self]; rfl)
  rw [List.getElem?_append_right (by rw [ln]; exact Nat.le_refl _), ln, Nat.sub_self] at k2
  cases k2
  rw [List.getElem?_append_left (by rw [ln]; exact hi)] at k1
  have dj : ∀ a ∈ AA S1.length, a ∉ p :: A' := fun a ha z => ap S1.length i (by omega) (by rw [List.length_append]; exact Nat.lt_succ_self _) (by rw [List.length_append]; exact Nat.lt_succ_of_lt hi) a ha (by rw [eA]; exact z)
  rw [eA] at nd out
  have e2 : (if c' = c ∧ ds.length < 1000 then some (D.ob c' (putD f y ds)) else none) = some d := e
  by_cases hc : c' = c ∧ ds.length < 1000
  · rw [if_pos hc] at e2
    obtain ⟨rfl, hl⟩ := hc
    cases e2
    refine ⟨.ref p, k1, p, _, dx, vs, rfl, hp, T.c, T.n f hf, by rw [ow.len]; exact hl, ?_⟩
    obtain ⟨A0, Ar, pm, _, put⟩ := ow.spl f
    have np : p ∉ A' := (List.nodup_cons.mp nd).1
    have nv : p ∉ AA S1.length := fun z => dj p z List.mem_cons_self
    have keep : ∀ {a u o}, a ≠ p → H1 a = some u → (upd H1 p o) a = some u := fun ne hu => by rw [upd_ne ne]; exact hu
    obtain ⟨A2, ow2, pm2⟩ := put (fun n => Own K cl G1 (upd H1 p (.ins (cl.c c') dx (putF f v vs))) (fs n)) v y (AA S1.length) (by rw [hv]; exact owv.step (Ex.refl _) fun a ha u _ hu => keep (fun z => nv (by rw [← z]; exact ha)) hu) fun m v d A2 s r => r.step (Ex.refl _) fun a ha u _ hu =>
      keep (fun z => np (pm.mem_iff.mpr (List.mem_append_right _ (by rw [← z]; exact s ha)))) hu
    have sub : ∀ a ∈ A2, a ∈ AA S1.length ∨ a ∈ A' := fun a ha => by
      rcases List.mem_append.mp (pm2.mem_iff.mp ha) with z | z
      · exact .inl z
      · exact .inr (pm.mem_iff.mpr (List.mem_append_right _ z))
    -- the slots without the last
    have I2 : Sig K cl B G1 H1 S1 σ := ⟨I1.nxt, ln, I1.tab, AA, fun j s hj => by
      have hl2 := (List.getElem?_eq_some_iff.mp hj).1
      obtain ⟨o, e1, e2⟩ := hs j s (by rw [List.getElem?_append_left hl2]; exact hj)
      rw [List.getElem?_append_left (by rw [ln]; exact hl2)] at e1
      exact ⟨o, e1, e2⟩, fun j k ne hj hk => ap j k ne (by rw [List.length_append]; exact Nat.lt_succ_of_lt hj) (by rw [List.length_append]; exact Nat.lt_succ_of_lt hk)⟩
    have nd2 : (p :: A2).Nodup := by
      refine List.nodup_cons.mpr ⟨fun z => (sub p z).elim nv np, pm2.nodup_iff.mpr (List.nodup_append.mpr ⟨ndv, (List.nodup_append.mp (pm.nodup_iff.mp (List.nodup_cons.mp nd).2)).2.1, fun a ha b hb z => dj a ha (List.mem_cons_of_mem _ (pm.mem_iff.mpr (List.mem_append_right _ (by rw [z]; exact hb))))⟩)⟩
    refine q σ G1 _ ⟨⟨I1.nxt.g, ⟨fun a u _ hu => ?_, fun a ps hu => ?_⟩, fun a u hu => ?_, I1.nxt.fr⟩, by rw [List.length_set]; exact ln, fun a ha => ?_, atA AA i (p :: A2), fun j s hj => ?_, fun j k ne hj hk a ha => ?_⟩
    · exact keep (fun z => by rw [z, (out p List.mem_cons_self).2] at hu; cases hu) (I1.nxt.h a u hu)
    · obtain ⟨ps', hu', k⟩ := I1.nxt.h.b a ps hu
      exact ⟨ps', keep (fun z => by rw [z, (out p List.mem_cons_self).2] at hu; cases hu) hu', k⟩
    · exact keep (fun z => by rw [z, (out p List.mem_cons_self).1] at hu; cases hu) (I1.nxt.gh a u hu)
    · obtain ⟨⟨ps, hu, ok⟩, hg⟩ := I1.tab a ha
      exact ⟨⟨ps, keep (fun z => by rw [z, hp] at hu; cases hu) hu, ok⟩, hg⟩
    · by_cases e : i = j
      · subst e
        rw [List.getElem?_set_self hi] at hj
        cases hj
        refine ⟨_, k1, ?_⟩
        rw [atA_e rfl]
        refine ⟨_, rfl, ⟨p, dx, _, _, _, A2, rfl, hpo, rfl, upd_same, rfl, ow2⟩, nd2, fun a ha => ?_⟩
        rcases List.mem_cons.mp ha with z | z
        · rw [z]; exact out p List.mem_cons_self
        · rcases sub a z with z | z
          · exact outv a z
          · exact out a (List.mem_cons_of_mem _ z)
      · rw [List.getElem?_set_ne e] at hj
        have hlj : j < S1.length := (List.getElem?_eq_some_iff.mp hj).1
        obtain ⟨_, hs2, _⟩ := I2.slots
        obtain ⟨o, h2, h3⟩ := hs j s (by rw [List.getElem?_append_left hlj]; exact hj)
        rw [List.getElem?_append_left (by rw [ln]; exact hlj)] at h2
        refine ⟨o, h2, ?_⟩
        rw [atA_n (fun z => e z.symm)]
        cases s with
        | jk => exact h3
        | vl d' => exact h3
        | ow sh3 d3 =>
          obtain ⟨v3, e1, ow3, nd3, out3⟩ := h3
          refine ⟨v3, e1, ow3.step (Ex.refl _) (fun a ha u _ hu => keep (fun z => ?_) hu), nd3, out3⟩
          exact ap j i (fun y => e y.symm) (by rw [List.length_append]; exact Nat.lt_succ_of_lt hlj) (by rw [List.length_append]; exact Nat.lt_succ_of_lt hi) a ha (by rw [eA, z]; exact List.mem_cons_self)
    · rw [List.length_set] at hj hk
      have L : (S1 ++ [Sl.ow sh y]).length = S1.length + 1 := by rw [List.length_append]; rfl
      have off : ∀ j, j < S1.length → j ≠ i → ∀ a ∈ AA j, a ∉ p :: A2 := fun j hj ne a ha z => by
        rcases List.mem_cons.mp z with y | y
        · exact ap j i ne (by omega) (by omega) a ha (by rw [eA, y]; exact List.mem_cons_self)
        · rcases sub a y with y | y
          · exact ap j S1.length (by omega) (by omega) (by omega) a ha y
          · exact ap j i ne (by omega) (by omega) a ha (by rw [eA]; exact List.mem_cons_of_mem _ y)
      by_cases ej : j = i
      · subst ej
        rw [atA_e rfl] at ha
        rw [atA_n (fun z => ne z.symm)]
        exact fun z => off k hk (fun z => ne z.symm) a z ha
      · rw [atA_n ej] at ha
        by_cases ek : k = i
        · subst ek; rw [atA_e rfl]; exact off j hj ej a ha
        · rw [atA_n ek]; exact ap j k ne (by omega) (by omega) a ha
  · rw [if_neg hc] at e2; cases e2
end
end Oh
namespace Oh
open PySem PySem.Spec PyProof.Rows L2 Evl
/-! ### a part of an owned thing, by its path -/
inductive Stp where | f (c : Nat) (n : Str) | k (i : Int)
noncomputable def insF (n : Str) : Option HO → Option V
  | some (.ins _ _ fs) => fs.lookup n
  | _ => none
noncomputable def lstK (i : Int) : Option HO → Option V
  | some (.lst vs) => (ixN vs.length i).bind fun a => vs[a]?
  | _ => none
noncomputable def stV (H : Hp) : Stp → V → Option V
  | .f _ n, .ref p => insF n (H p)
  | .k i, .ref p => lstK i (H p)
  | _, _ => none
noncomputable def rsV (H : Hp) : List Stp → V → Option V
  | [], v => some v
  | s :: π, v => (stV H s v).bind (rsV H π)
section
variable {K : PySem.W.Frag} {cl : Cl} {G G' H H' : Hp} {B : Bs} {S S1 S2 S3 : List Sl} {σ : L2.St}
theorem OwnL.spl {R : V → D → List Addr → Prop} : ∀ {vs ds A} {k : Nat} {d : D}, OwnL R vs ds A → ds[k]? = some d → ∃ v A0 Ar, vs[k]? = some v ∧ R v d A0 ∧ A.Perm (A0 ++ Ar) ∧
    ∀ {R' : V → D → List Addr → Prop} {d' : D} {A1 : List Addr}, R' v d' A1 → (∀ v d A2, A2 ⊆ Ar → R v d A2 → R' v d A2) → ∃ A', OwnL R' vs (ds.set k d') A' ∧ A'.Perm (A1 ++ Ar)
  | _, _, _, _, _, .nil, h => by simp at h
  | _, _, _, 0, _, .cons (A := A0) (As := As) r t, h => by
    cases h
    exact ⟨_, A0, As, rfl, r, .refl _, fun {R' d' A1} r' k => ⟨A1 ++ As, .cons r' (t.imp fun v d A2 s q => k v d A2 s q), .refl _⟩⟩
  | _, _, _, k + 1, _, .cons (A := Ag) (As := As) r t, h => by
    obtain ⟨v, A0, Ar, e1, e2, pm, put⟩ := OwnL.spl (k := k) t (by simpa using h)
    refine ⟨v, A0, Ag ++ Ar, by simpa using e1, e2, ?_, fun {R' d' A1} r' kk => ?_⟩
    · refine (pm.append_left Ag).trans ?_
      rw [← List.append_assoc, ← List.append_assoc]
      exact List.perm_append_comm.append_right Ar
    · obtain ⟨A', h1, h2⟩ := put r' fun v d A2 s q => kk v d A2 (fun _ hx => List.mem_append_right _ (s hx)) q
      refine ⟨Ag ++ A', .cons (kk _ _ _ (fun _ hx => List.mem_append_left _ hx) r) h1, ?_⟩
      refine (h2.append_left Ag).trans ?_
      rw [← List.append_assoc, ← List.append_assoc]
      exact List.perm_append_comm.append_right Ar
end
section
variable (K : PySem.W.Frag) (cl : Cl)
/-- a reading of a part of what slot i owns -/
noncomputable def EP (te : TE) (S : List Sl) (i : Nat) (m : Option (List Stp)) (S' : List Sl) : Prop := ∀ (B : Bs) (G H : Hp) (σ : L2.St), Sig K cl B G H S σ → ∀ π, m = some π → ∀ Q : VK,
  (∀ v0 v G' H', Sig K cl B G' H' S' σ → Ex G G' → Ex2 H H' → σ[i]? = some (some v0) → rsV H' π v0 = some v → Q v H') → te σ H Q
end
section
variable {K : PySem.W.Frag} {cl : Cl} {G G' H H' : Hp} {B : Bs} {S S1 S2 S3 : List Sl} {σ : L2.St} {te tk : TE} {m n : Option D} {i : Nat} {mp : Option (List Stp)}
end
end Oh
namespace Oh
open PySem PySem.Spec PyProof.Rows L2 Evl
/-! ### parts of what is owned are given away -/
inductive ShLe : Sh → Sh → Prop
  | refl (s : Sh) : ShLe s s
  | v (s : Sh) : ShLe .v s
  | l {a b : Sh} : ShLe a b → ShLe (.l a) (.l b)
  | j {po : Option Addr} {f g : Str → Sh} : (∀ n, ShLe (f n) (g n)) → ShLe (.j po f) (.j po g)
section
variable {K : PySem.W.Frag} {cl : Cl} {G G' H H' : Hp} {B : Bs} {S S1 S2 S3 : List Sl} {σ : L2.St}
theorem OwnL.frz {R : V → D → List Addr → Prop} {R' : Hp → V → D → List Addr → Prop} {Kp : Hp → Prop} (h : ∀ v d A, R v d A → A.Nodup → ∃ A', A'.Sublist A ∧ ∀ G', Kp G' → (∀ p ∈ A, p ∉ A' → G' p = H p) → R' G' v d A') :
    ∀ {vs ds A}, OwnL R vs ds A → A.Nodup → ∃ A', A'.Sublist A ∧ ∀ G', Kp G' → (∀ p ∈ A, p ∉ A' → G' p = H p) → OwnL (R' G') vs ds A'
  | _, _, _, .nil, _ => ⟨[], .slnil, fun _ _ _ => .nil⟩
  | _, _, _, .cons (A := A0) (As := As) r t, nd => by
    obtain ⟨n1, n2, dj⟩ := List.nodup_append.mp nd
    obtain ⟨A1, s1, k1⟩ := h _ _ _ r n1
    obtain ⟨A2, s2, k2⟩ := OwnL.frz h t n2
    exact ⟨A1 ++ A2, s1.append s2, fun G' e k => .cons (k1 G' e fun p hp np => k p (List.mem_append_left _ hp) fun z => (List.mem_append.mp z).elim np fun y => dj p hp p (s2.subset y) rfl)
      (k2 G' e fun p hp np => k p (List.mem_append_right _ hp) fun z => (List.mem_append.mp z).elim (fun y => dj p (s1.subset y) p hp rfl) np)⟩
theorem OwnF.frz {R : Str → V → D → List Addr → Prop} {R' : Hp → Str → V → D → List Addr → Prop} {Kp : Hp → Prop} (h : ∀ n v d A, R n v d A → A.Nodup → ∃ A', A'.Sublist A ∧ ∀ G', Kp G' → (∀ p ∈ A, p ∉ A' → G' p = H p) → R' G' n v d A') :
    ∀ {vs ds A}, OwnF R vs ds A → A.Nodup → ∃ A', A'.Sublist A ∧ ∀ G', Kp G' → (∀ p ∈ A, p ∉ A' → G' p = H p) → OwnF (R' G') vs ds A'
  | _, _, _, .nil, _ => ⟨[], .slnil, fun _ _ _ => .nil⟩
  | _, _, _, .cons (A := A0) (As := As) r t, nd => by
    obtain ⟨n1, n2, dj⟩ := List.nodup_append.mp nd
    obtain ⟨A1, s1, k1⟩ := h _ _ _ _ r n1
    obtain ⟨A2, s2, k2⟩ := OwnF.frz h t n2
    exact ⟨A1 ++ A2, s1.append s2, fun G' e k => .cons (k1 G' e fun p hp np => k p (List.mem_append_left _ hp) fun z => (List.mem_append.mp z).elim np fun y => dj p hp p (s2.subset y) rfl)
      (k2 G' e fun p hp np => k p (List.mem_append_right _ hp) fun z => (List.mem_append.mp z).elim (fun y => dj p (s1.subset y) p hp rfl) np)⟩
theorem Own.frz : ∀ {s' s : Sh}, ShLe s' s → ∀ {v d A}, Own K cl G H s v d A → A.Nodup → ∃ A', A'.Sublist A ∧ ∀ G', Ex G G' → (∀ p ∈ A, p ∉ A' → G' p = H p) → Own K cl G' H s' v d A' := by
  intro s' s le
  induction le with
  | refl s => exact fun ow nd => ⟨_, .refl _, fun G' e _ => ow.step e fun p _ u _ hu => hu⟩
  | v s => exact fun ow nd => ⟨[], List.nil_sublist _, fun G' e k => ⟨rfl, ow.rep e fun p hp => k p hp (fun z => nomatch z)⟩⟩
  | @l a b le ih =>
    rintro v d A ⟨p, vs, ds, A', h1, h2, h3, rfl, h5⟩ nd
    obtain ⟨np, nd2⟩ := List.nodup_cons.mp nd
    obtain ⟨A2, s2, k2⟩ := h5.frz (R' := fun G' => Own K cl G' H a) (Kp := fun G' => Ex G G') (H := H) (fun v d A o n => ih o n) nd2
    exact ⟨p :: A2, s2.cons_cons p, fun G' e k => ⟨p, vs, ds, A2, h1, h2, h3, rfl, k2 G' e fun q hq nq => k q (List.mem_cons_of_mem _ hq) fun z => (List.mem_cons.mp z).elim (fun y => np (by rw [← y]; exact hq)) nq⟩⟩
  | @j po f g le ih =>
    rintro v d A ⟨p, dx, c, fs, ds, A', h1, hpo, h2, h3, rfl, h5⟩ nd
    obtain ⟨np, nd2⟩ := List.nodup_cons.mp nd
    obtain ⟨A2, s2, k2⟩ := h5.frz (R' := fun G' n => Own K cl G' H (f n)) (Kp := fun G' => Ex G G') (H := H) (fun n v d A o nn => ih n o nn) nd2
    exact ⟨p :: A2, s2.cons_cons p, fun G' e k => ⟨p, dx, c, fs, ds, A2, h1, hpo, h2, h3, rfl, k2 G' e fun q hq nq => k q (List.mem_cons_of_mem _ hq) fun z => (List.mem_cons.mp z).elim (fun y => np (by rw [← y]; exact hq)) nq⟩⟩
theorem Sig.frz (I : Sig K cl B G H S σ) {i : Nat} {sh sh' : Sh} {d : D} (h : S[i]? = some (.ow sh d)) (le : ShLe sh' sh) : ∃ G', Ex G G' ∧ Sig K cl B G' H (S.set i (.ow sh' d)) σ := by
  obtain ⟨v, A, hσ, ow, nd, out, cls⟩ := I.thru h
  obtain ⟨A', s, k⟩ := Own.frz le ow nd
  have eg : Ex G (fun b => if b ∈ A ∧ b ∉ A' then H b else G b) := fun a u e => by
    show (if a ∈ A ∧ a ∉ A' then H a else G a) = _
    rw [if_neg fun z => by rw [(out a z.1).1] at e; cases e]; exact e
  refine ⟨_, eg, cls _ H sh' d A' ⟨eg, ⟨fun a u _ e => ?_, fun a ps e => ?_⟩, fun a u e => ?_, fun a e => ?_⟩ (k _ eg fun p hp np => if_pos ⟨hp, np⟩) (s.nodup nd) fun p hp => ⟨?_, .inl (s.subset hp)⟩⟩
  · by_cases z : a ∈ A
    · rw [cutA_in z] at e; cases e
    · rw [cutA_out z] at e; exact e
  · by_cases z : a ∈ A
    · rw [cutA_in z] at e; cases e
    · rw [cutA_out z] at e; exact ⟨ps, e, id⟩
  · by_cases z : a ∈ A ∧ a ∉ A'
    · rw [if_pos z] at e; exact e
    · rw [if_neg z] at e; exact I.nxt.gh a u e
  · by_cases z : a ∈ A ∧ a ∉ A'
    · exact .inr (cutA_in z.1)
    · rw [if_neg z] at e; exact .inl e
  · show (if p ∈ A ∧ p ∉ A' then H p else G p) = none
    rw [if_neg fun z => z.2 hp]; exact (out p (s.subset hp)).1
/-! ### methods that change nothing -/
noncomputable def dMt (c : Nat) (m : Str) : D → Option D | .ob c' fs => if c' = c ∧ fs.lookup m = none then some (.ob c' fs) else none | _ => none
theorem FReps.none {m : Str} : ∀ {vs : List (Str × V)} {ds : List (Str × D)}, FReps K cl G vs ds → ds.lookup m = none → vs.lookup m = none
  | _, _, .nil, _ => rfl
  | _, _, .cons (n := g) r t, h => by
    rw [List.lookup_cons] at h ⊢
    cases e : m == g with
    | true => rw [e] at h; cases h
    | false => rw [e] at h; exact FReps.none t h
theorem OwnF.none {R : Str → V → D → List Addr → Prop} {m : Str} : ∀ {vs ds A}, OwnF R vs ds A → ds.lookup m = none → vs.lookup m = none
  | _, _, _, .nil, _ => rfl
  | _, _, _, .cons (n := g) r t, h => by
    rw [List.lookup_cons] at h ⊢
    cases e : m == g with
    | true => rw [e] at h; cases h
    | false => rw [e] at h; exact OwnF.none t h
structure ConM (P : Program) (w : World) (K : PySem.W.Frag) (cl : Cl) (mg : Str → Option Value) (base : Heap) (k : Nat) (c : Nat) (mn : Str) (f : List D → Option D) (fa : Addr) (fd : FuncData) (ps : List Str) : Prop where
  ok : FnOk P w K mg base CX0 k fa fd ps (spD K cl f)
  mt : Meth K (cl.c c) mn fa
  bd : Binds K fd ps []
variable {te ta : TE} {ts : TA} {m : Option D} {ms : Option (List D)} {E : XK}
theorem ev_meth {c : Nat} {mn : Str} {f : List D → Option D} (h : EV K cl te S m S1) (ha : EA K cl ts S1 ms S2) :
    EV K cl (tMeth (cl.c c) mn (spD K cl f) [] E te ts) S ((m.bind (dMt c mn)).bind fun x => ms.bind fun xs => f (x :: xs)) S2 := fun B G H σ I z e Q q => by
  obtain ⟨x, ex, e⟩ := bind_some e
  obtain ⟨d, ed, ex⟩ := bind_some ex
  obtain ⟨xs, exs, e3⟩ := bind_some e
  refine h B G H σ I d ed _ fun v G1 H1 I1 g1 h1 rv => ?_
  cases rv with
  | @ob a dx c' fs ds hg rs =>
    have e2 : (if c' = c ∧ ds.lookup mn = none then some (D.ob c' ds) else none) = some x := ex
    by_cases hc : c' = c ∧ ds.lookup mn = none
    · rw [if_pos hc] at e2
      cases e2
      obtain ⟨rfl, hn⟩ := hc
      refine ⟨a, dx, fs, rfl, I1.nxt.gh _ _ hg, rs.none hn, ?_⟩
      refine ha B G1 H1 σ I1 xs exs _ fun vs G2 H2 I2 g2 h2 rvs => ?_
      refine ⟨G2, _ :: xs, z, I2.nxt.gh, I2.tab, by rw [List.append_nil]; exact .cons (Rep.mono g2 (.ob hg rs)) rvs, e3, fun v G' H' nx r => ?_⟩
      exact q v G' H' (I2.step nx) ((g1.trans g2).trans nx.g) ((h1.trans h2).trans nx.h) r
    · rw [if_neg hc] at e2; cases e2
  | _ => cases ex
/-! ### methods that change their object -/
noncomputable def spO (K : PySem.W.Frag) (cl : Cl) (fs : Str → Sh) (m : D → List D → Option (D × D)) : Sp := fun vs H Q _ => ∃ G x vs' d ds A r, vs = x :: vs' ∧ Ex G H ∧ (∀ a ∈ cl.t, GxR.TabG H a ∧ G a = none) ∧ Own K cl G H (.j none fs) x d A ∧ A.Nodup ∧ (∀ p ∈ A, G p = none) ∧
  Reps K cl G vs' ds ∧ m d ds = some r ∧ ∀ v G' H' A', Nxt G (cutA H A) G' H' → Own K cl G' H' (.j none fs) x r.2 A' → A'.Nodup → (∀ p ∈ A', G' p = none ∧ (p ∈ A ∨ H p = none)) → Rep K cl G' v r.1 → Q v H'
theorem Own.none_ {po : Option Addr} {fs : Str → Sh} {v : V} {d : D} {A : List Addr} (h : Own K cl G H (.j po fs) v d A) : Own K cl G H (.j none fs) v d A := by
  obtain ⟨p, dx, c, vs, ds, A', h1, hpo, h2, h3, h4, h5⟩ := h
  exact ⟨p, dx, c, vs, ds, A', h1, (fun q z => nomatch z), h2, h3, h4, h5⟩
theorem Own.some_ {po : Option Addr} {fs fs' : Str → Sh} {v : V} {d d' : D} {A A' : List Addr} (h : Own K cl G H (.j po fs) v d A) (h' : Own K cl G' H' (.j none fs') v d' A') : Own K cl G' H' (.j po fs') v d' A' := by
  obtain ⟨p, dx, c, vs, ds, A2, h1, hpo, _⟩ := h
  obtain ⟨p', dx', c', vs', ds', A3, k1, _, k2, k3, k4, k5⟩ := h'
  rw [h1] at k1; cases k1
  exact ⟨p, dx', c', vs', ds', A3, h1, hpo, k2, k3, k4, k5⟩
/-- slot i's object goes through a call of its method -/
theorem call_own {i c : Nat} {mn : Str} {po : Option Addr} {fs : Str → Sh} {d : D} {f : D → List D → Option (D × D)} (h0 : S[i]? = some (.ow (.j po fs) d)) (h1 : S1[i]? = some (.ow (.j po fs) d)) (ha : EA K cl ts S ms S1) :
    ∀ (B : Bs) (G H : Hp) (σ : L2.St), Sig K cl B G H S σ → ∀ r, ((dMt c mn d).bind fun x => ms.bind fun xs => f x xs) = some r → ∀ Q : VK,
      (∀ v G' H', Sig K cl B G' H' (S1.set i (.ow (.j po fs) r.2)) σ → Rep K cl G' v r.1 → Q v H') → tMeth (cl.c c) mn (spO K cl fs f) [] E (tVar i) ts σ H Q := fun B G H σ I r e Q q => by
  obtain ⟨x, ex, e⟩ := bind_some e
  obtain ⟨xs, exs, e3⟩ := bind_some e
  obtain ⟨v, A, hσ, ow, _, _, _⟩ := I.thru h0
  obtain ⟨p, dx, c', vs, ds, A', rfl, _, rfl, hp, _, of⟩ := ow
  have e2 : (if c' = c ∧ ds.lookup mn = none then some (D.ob c' ds) else none) = some x := ex
  by_cases hc : c' = c ∧ ds.lookup mn = none
  · rw [if_pos hc] at e2
    cases e2
    obtain ⟨rfl, hn⟩ := hc
    refine ⟨.ref p, hσ, p, dx, vs, rfl, hp, of.none hn, ?_⟩
    refine ha B G H σ I xs exs _ fun us G1 H1 I1 g1 h1' rs => ?_
    obtain ⟨v1, A1, hσ1, ow1, nd1, out1, cls⟩ := I1.thru h1
    rw [hσ] at hσ1; cases hσ1
    refine ⟨G1, .ref p, us, _, xs, A1, r, by rw [List.append_nil], I1.nxt.gh, I1.tab, ow1.none_, nd1, fun a ha => (out1 a ha).1, rs, e3, fun w G' H' A2 nx o2 nd2 new rv => ?_⟩
    exact q w G' H' (cls G' H' _ _ A2 nx (ow1.some_ o2) nd2 new) rv
  · rw [if_neg hc] at e2; cases e2
end
section
variable (K : PySem.W.Frag) (cl : Cl) (xa : Addr) (fs : Str → Sh)
noncomputable def OEnd (B : Bs) (Dn : Ends) (r : D × D) : Prop := ∀ v G' H' S' σ', Sig K cl B G' H' S' σ' → S'[0]? = some (.ow (.j (some xa) fs) r.2) → Rep K cl G' v r.1 → Dn.rt v H'
end
section
variable {K : PySem.W.Frag} {cl : Cl} {xa : Addr} {fs : Str → Sh} {S S1 S2 : List Sl} {te ta tb tc : TE} {t u tr : TS} {tt : TT} {m : Option D} {β γ δ : Type}
theorem OEnd.up {B : Bs} {G H : Hp} {Dn : Ends} {r : D × D} (n : Nxt B.G B.H G H) (h : OEnd K cl xa fs B Dn r) : OEnd K cl xa fs ⟨G, B.H⟩ Dn r := fun v G' H' S' σ' I e rv =>
  h v G' H' S' σ' ⟨n.base I.nxt, I.len, I.tab, I.slots⟩ e rv
theorem start_own {G H : Hp} {p : Addr} {d : D} {A : List Addr} {vs' : List V} {ds : List D} {k : Nat} (gh : Ex G H) (tb : ∀ a ∈ cl.t, GxR.TabG H a ∧ G a = none) (ow : Own K cl G H (.j none fs) (.ref p) d A) (nd : A.Nodup) (gA : ∀ p ∈ A, G p = none) (rs : Reps K cl G vs' ds) :
    Sig K cl ⟨G, cutA H A⟩ G H (.ow (.j (some p) fs) d :: (ds.map .vl ++ List.replicate k .jk)) (some (.ref p) :: (vs'.map some ++ List.replicate k none)) := by
  have ow2 : Own K cl G H (.j (some p) fs) (.ref p) d A := by
    obtain ⟨p', dx, c, vs, ds, A', h1, hpo, h2, h3, h4, h5⟩ := ow
    cases h1
    exact ⟨p, dx, c, vs, ds, A', rfl, fun q z => by cases z; rfl, h2, h3, h4, h5⟩
  refine ⟨⟨Ex.refl _, ⟨fun a u _ e => ?_, fun a ps e => ?_⟩, gh, fun _ h => .inl h⟩, by simp [rs.length], tb, atA (fun _ => []) 0 A, fun i s hs => ?_, fun i j hij _ _ q hq => ?_⟩
  · by_cases z : a ∈ A
    · rw [show (⟨G, cutA H A⟩ : Bs).H a = none from cutA_in z] at e; cases e
    · rw [show (⟨G, cutA H A⟩ : Bs).H a = H a from cutA_out z] at e; exact e
  · by_cases z : a ∈ A
    · rw [show (⟨G, cutA H A⟩ : Bs).H a = none from cutA_in z] at e; cases e
    · rw [show (⟨G, cutA H A⟩ : Bs).H a = H a from cutA_out z] at e; exact ⟨ps, e, id⟩
  · cases i with
    | zero =>
      cases hs
      exact ⟨_, rfl, .ref p, rfl, by rw [atA_e rfl]; exact ow2, by rw [atA_e rfl]; exact nd, fun q hq => by rw [atA_e rfl] at hq; exact ⟨gA q hq, cutA_in hq⟩⟩
    | succ i =>
      obtain ⟨o, h1, h2⟩ := slot_start rs (i := i) (by simpa using hs)
      refine ⟨o, by simpa using h1, ?_⟩
      rcases h2 with rfl | ⟨v, d', rfl, rfl, rv⟩
      · rfl
      · exact ⟨rfl, v, rfl, rv⟩
  · cases i with
    | zero => rw [atA_n (fun z => hij z.symm)]; exact fun z => nomatch z
    | succ i => rw [atA_n (Nat.succ_ne_zero i)] at hq; cases hq
/-! ### an object made that may yet change: its __init__ -/
noncomputable def spJ (K : PySem.W.Frag) (cl : Cl) (c : Nat) (fs : Str → Sh) (f : List D → Option D) : Sp := fun vs H Q _ => ∃ x dx vs' G ds d, vs = .ref x :: vs' ∧ H x = some (.ins (cl.c c) dx []) ∧ G x = none ∧ Ex G H ∧ (∀ a ∈ cl.t, GxR.TabG H a ∧ G a = none) ∧ Reps K cl G vs' ds ∧ f ds = some d ∧
  ∀ G' H' A', Nxt G (cutA H [x]) G' H' → Own K cl G' H' (.j none fs) (.ref x) d A' → A'.Nodup → (∀ p ∈ A', G' p = none ∧ (p = x ∨ H p = none)) → Q .non H'
structure ConJ (P : Program) (w : World) (K : PySem.W.Frag) (cl : Cl) (mg : Str → Option Value) (base : Heap) (k : Nat) (c : Nat) (x : Str) (fs : Str → Sh) (f : List D → Option D) (fa : Addr) (fd : FuncData) (ps : List Str) : Prop where
  ok : FnOk P w K mg base CX0 k fa fd ps (spJ K cl c fs f)
  mkc : Mk K (cl.c c) fa
  mg : mg x = some (.ref (cl.c c))
  bd : Binds K fd ps []
theorem evo_make {c : Nat} {f : List D → Option D} {ts : TA} {ms : Option (List D)} {E : XK} (ha : EA K cl ts S ms S1) : EVO K cl (.j none fs) (tMake (cl.c c) (spJ K cl c fs f) [] E ts) S (ms.bind f) S1 := fun B G H σ I z e Q q => by
  obtain ⟨ds, eds, e⟩ := bind_some e
  refine ha B G H σ I ds eds _ fun vs G1 H1 I1 g1 h1 rs => fun x dx hx hdx ne => ?_
  have gh := I1.nxt.gh
  have e1 : Ex H1 (upd (upd H1 dx (.own x)) x (.ins (cl.c c) dx [])) := (Ex.new hdx).trans (Ex.new (by rw [upd_ne (Ne.symm ne)]; exact hx))
  refine ⟨x, dx, vs ++ [], G1, ds, z, rfl, upd_same, fresh_back gh hx, gh.trans e1, fun a ha => ⟨((I1.tab a ha).1).imp fun ps h => ⟨e1 _ _ h.1, h.2⟩, (I1.tab a ha).2⟩, by rw [List.append_nil]; exact rs, e, fun G' H' A' nx ow nd new => ⟨rfl, ?_⟩⟩
  have e2 : Ex H1 (cutA (upd (upd H1 dx (.own x)) x (.ins (cl.c c) dx [])) [x]) := fun a u h => by
    rw [cutA_out (fun z => by rw [List.mem_singleton.mp z, hx] at h; cases h)]; exact e1 a u h
  have n2 : Nxt G1 H1 G' H' := ⟨nx.g, (Ex2.of e2).trans nx.h, nx.gh, fun p hp => (nx.fr p hp).imp id fun h => (Ex2.of e2).back h⟩
  refine q _ G' H' (I1.push n2 ow nd fun p hp => ⟨?_, (new p hp).1⟩) (g1.trans n2.g) (h1.trans n2.h)
  rcases (new p hp).2 with z | z
  · rw [z]; exact hx
  · exact (Ex2.of e1).back z
theorem initJ_con {P : Program} {w : World} {mg : Str → Option Value} {base : Heap} {x qual : Str} {st : Stmt} {fa : Addr} {fd : FuncData} {N ps : List Str} {k n c : Nat} {f : List D → Option D} {fs0 : Str → Sh}
    (F : Fun K "__init__" qual st fa fd) (SC : FnScope N ps (defScope st)) (hn : ps.length = n + 1) (ar : ∀ ds d, f ds = some d → ds.length = n) (mk : Mk K (cl.c c) fa) (hm : mg x = some (.ref (cl.c c))) (hb : Binds K fd ps [])
    (body : ∀ (cdv : Value) (A : Around) (outer : List Env) (s : Shared) (H : Hp) (E : XK), Room k (A.deeper (envOfC qual (defScope st) s.heap.objs.size fa cdv)) →
      ∃ t, PSs (cxOf CX0 P w K mg base N qual (defScope st) fa cdv A outer s H E).nox (defBody st) t ∧ ∀ (xa : Addr) (ds : List D), ds.length = n →
        SV K cl t (.ow (.j (some xa) fs0) (.ob c []) :: (ds.map .vl ++ List.replicate (N.length - (n + 1)) .jk)) (f ds) (fun b => .ow (.j (some xa) fs) b :: List.replicate (n + (N.length - (n + 1))) .jk)) : ConJ P w K cl mg base (k + 1) c x fs f fa fd ps := by
  refine ⟨F.ok SC (fun vs H Q E h => ?_) (fun cdv A outer s H vs Q E hr h => ?_), mk, hm, hb⟩
  · obtain ⟨x, dx, vs', G, ds, d, rfl, _, _, _, _, rs, e, _⟩ := h
    rw [List.length_cons, rs.length, ar ds _ e, hn]
  · obtain ⟨x, dx, vs', G, ds, d, rfl, hx, gx, gh, tb, rs, e, q⟩ := h
    obtain ⟨t, hp, ht⟩ := body cdv A outer s H E hr
    have hl := ar ds _ e
    have hv : vs'.length = n := rs.length.trans hl
    refine ⟨t, hp, ?_⟩
    have e0 : L2.start N (.ref x :: vs') = some (.ref x) :: (vs'.map some ++ List.replicate (N.length - (n + 1)) none) := by unfold L2.start; rw [List.length_cons, hv]; rfl
    rw [e0]
    refine ht x ds hl ⟨G, cutA H [x]⟩ G H _ (start_own (A := [x]) gh tb ⟨x, dx, c, [], [], [], rfl, fun q z => (nomatch z), rfl, hx, rfl, .nil⟩ (by simp) (fun p hp => by rw [List.mem_singleton.mp hp]; exact gx) rs) _ e _ fun σ' G' H' I' => ?_
    obtain ⟨v1, A1, hσ, ow1, nd1, out1, _⟩ := I'.thru (i := 0) rfl
    have ev : v1 = .ref x := by obtain ⟨p', _, _, _, _, _, h1, hpo, _⟩ := ow1; rw [h1, hpo x rfl]
    subst ev
    refine q G' H' A1 I'.nxt ow1.none_ nd1 fun a ha => ⟨(out1 a ha).1, ?_⟩
    have := (out1 a ha).2
    by_cases z : a ∈ [x]
    · exact .inl (List.mem_singleton.mp z)
    · rw [show (⟨G, cutA H [x]⟩ : Bs).H a = H a from cutA_out z] at this; exact .inr this
end
end Oh
namespace Oh
open PySem PySem.W PySem.Spec PyProof.Rows L2 Evl
/-! ### enumerate(zip(a, b)): the inner pairs stay out, so zip makes new ones, or finds the last one gone -/
section
variable {prog : Program} {w : World} {A : Around} {E : Value → Shared → Prop} {s : Shared}
noncomputable abbrev ZG (h : Heap) (z TI TO : Addr) (v : Value) (f : Bool) : Prop := h.get? z = some { cls := .type "zip", dict := none, data := .fields #[v, .bool f, .bool false, .ref TI, .ref TO], slots := #[] }
structure ZSt (h : Heap) (z TI TO i1 i2 l1 l2 : Addr) (k : Nat) : Prop where
  z : ∃ v f, ZG h z TI TO v f ∧ ((v = .none ∧ f = false) ∨ ∃ T : Addr, v = rawInt T)
  ti : IsPair h TI (.ref i1) (.ref i2)
  to : ∃ a b, IsPair h TO a b
  a : h.IsListIter i1 l1 k
  b : h.IsListIter i2 l2 k
theorem ZSt.frame {h h' : Heap} {z TI TO i1 i2 l1 l2 : Addr} {k : Nat} (st : ZSt h z TI TO i1 i2 l1 l2 k) (kp : ∀ b ∈ [z, TI, TO, i1, i2], ∀ o, h.get? b = some o → h'.get? b = some o) : ZSt h' z TI TO i1 i2 l1 l2 k := by
  obtain ⟨⟨v, f, hz, hv⟩, ti, ⟨a, b, to⟩, j1, j2⟩ := st
  exact ⟨⟨v, f, kp z (by simp) _ hz, hv⟩, kp TI (by simp) _ ti, ⟨a, b, kp TO (by simp) _ to⟩, j1.at fun o e => kp i1 (by simp) o e, j2.at fun o e => kp i2 (by simp) o e⟩
theorem ZSt.lt {h : Heap} {z TI TO i1 i2 l1 l2 : Addr} {k : Nat} (st : ZSt h z TI TO i1 i2 l1 l2 k) : ∀ b ∈ [z, TI, TO, i1, i2], b < h.objs.size := by
  obtain ⟨⟨v, f, hz, hv⟩, ti, ⟨a, b, to⟩, ⟨_, j1, _⟩, ⟨_, j2, _⟩⟩ := st
  intro b hb
  have e' : b = z ∨ b = TI ∨ b = TO ∨ b = i1 ∨ b = i2 := by simpa using hb
  rcases e' with t | t | t | t | t <;> rw [t] <;> first | exact Heap.lt_size hz | exact Heap.lt_size ti | exact Heap.lt_size to | exact Heap.lt_size j1 | exact Heap.lt_size j2
end
section
variable {prog : Program} {w : World} {A : Around} {E : Value → Shared → Prop} {s : Shared}
end
end Oh
namespace Oh
open PySem PySem.Spec PyProof.Rows L2 Evl
section
variable {K : PySem.W.Frag} {cl : Cl} {G G' H H' : Hp} {B : Bs} {S S1 S2 S3 : List Sl} {σ : L2.St} {te ta tb tc : TE} {m n o : Option D} {β γ : Type}
/-! ### a < b < c -/
theorem ev_chain {r r' : R2} {f f' : D → D → Option D} (o1 : Op2 K cl r f) (o2 : Op2 K cl r' f') (ha : EV K cl ta S m S) (hb : EV K cl tb S n S) (hc : EV K cl tc S o S) :
    EV K cl (tChain r r' ta tb tc) S (m.bind fun x => n.bind fun y => (f x y).bind fun z => (asB z).bind fun k => if k = true then o.bind fun w => f' y w else some (.bl false)) S := fun B G H σ I z e Q q => by
  obtain ⟨x, ex, e⟩ := bind_some e
  obtain ⟨y, ey, e⟩ := bind_some e
  obtain ⟨c, ec, e⟩ := bind_some e
  obtain ⟨k, ek, e⟩ := bind_some e
  refine ha B G H σ I x ex _ fun v G1 H1 I1 g1 h1 rv => ?_
  refine hb B G1 H1 σ I1 y ey _ fun w G2 H2 I2 g2 h2 rw2 => ?_
  refine o1 G2 H2 v w x y c I2.nxt.gh (rv.mono g2) rw2 ec _ fun u ru => ⟨k, rep_B ru ek, ?_⟩
  cases k with
  | true =>
    obtain ⟨t, et, e⟩ := bind_some (show (o.bind fun w => f' y w) = some z from e)
    refine hc B G2 H2 σ I2 t et _ fun s G3 H3 I3 g3 h3 rs => ?_
    exact o2 G3 H3 w s y t z I3.nxt.gh (rw2.mono g3) rs e Q fun u ru => q u G3 H3 I3 ((g1.trans g2).trans g3) ((h1.trans h2).trans h3) ru
  | false => cases e; exact q _ G2 H2 I2 (g1.trans g2) (h1.trans h2) .bl
theorem et_T (h : EV K cl te S m S1) : ET K cl (tTest te) S (m.bind asB) S1 := fun B G H σ I b e Q q => by
  obtain ⟨a, ea, e⟩ := bind_some e
  exact h B G H σ I a ea _ fun v G1 H1 I1 g1 h1 rv => ⟨b, rep_B rv e, q G1 H1 I1 g1 h1⟩
theorem fv_shr {t : TS} {mb : Option (Fl β γ)} {post : β → List Sl} {out : γ → List Sl} {i : Nat} {sh : Sh} {d : D} (h : S[i]? = some (.ow sh d)) (k : FV K cl t (S.set i (.vl d)) mb post out) : FV K cl t S mb post out := fun B G H σ I b e Dn q => by
  obtain ⟨_, G1, _, _, _, I1⟩ := I.share h
  exact k B G1 H σ I1 b e Dn q
theorem tv_shr {t : TS} {fl : Bool} {i : Nat} {sh : Sh} {d : D} (h : S[i]? = some (.ow sh d)) (k : TV K cl t (S.set i (.vl d)) fl m) : TV K cl t S fl m := fun B G H σ I b e Dn q => by
  obtain ⟨_, G1, _, _, _, I1⟩ := I.share h
  exact k B G1 H σ I1 b e Dn q
end
section
variable {K : PySem.W.Frag} {cl : Cl} {S S1 S2 : List Sl} {te tk : TE} {m n : Option D}
end
end Oh
namespace Oh
open PySem PySem.Spec PyProof.Rows L2 Evl
/-! ### a comprehension that reads an owned thing within -/
section
variable {K : PySem.W.Frag} {cl : Cl} {G G' H H' : Hp} {B : Bs} {S S1 S2 S3 : List Sl} {σ : L2.St} {te : TE} {tt : TT}
/-- what is owned is told by the heap -/
theorem OwnL.det {R R' : V → D → List Addr → Prop} (h : ∀ v d d' A A', R v d A → R' v d' A' → A = A') : ∀ {vs ds ds' A A'}, OwnL R vs ds A → OwnL R' vs ds' A' → A = A'
  | _, _, _, _, _, .nil, .nil => rfl
  | _, _, _, _, _, .cons r t, .cons r' t' => by rw [h _ _ _ _ _ r r', OwnL.det h t t']
theorem OwnF.det {R R' : Str → V → D → List Addr → Prop} (h : ∀ n v d d' A A', R n v d A → R' n v d' A' → A = A') : ∀ {vs ds ds' A A'}, OwnF R vs ds A → OwnF R' vs ds' A' → A = A'
  | _, _, _, _, _, .nil, .nil => rfl
  | _, _, _, _, _, .cons r t, .cons r' t' => by rw [h _ _ _ _ _ _ r r', OwnF.det h t t']
theorem OwnT.det {R R' : Nat → V → D → List Addr → Prop} (h : ∀ n v d d' A A', R n v d A → R' n v d' A' → A = A') : ∀ {n vs ds ds' A A'}, OwnT R n vs ds A → OwnT R' n vs ds' A' → A = A'
  | _, _, _, _, _, _, .nil, .nil => rfl
  | _, _, _, _, _, _, .cons r t, .cons r' t' => by rw [h _ _ _ _ _ _ r r', OwnT.det h t t']
mutual
theorem OwnD.det (g : Ex G H) (g' : Ex G' H) : ∀ {v : V} {d : D} {A : List Addr}, OwnD G H v d A → ∀ {d' : D} {A' : List Addr}, OwnD G' H v d' A' → A = A'
  | _, _, _, .non, _, _, h' => by cases h'; rfl
  | _, _, _, .bl, _, _, h' => by cases h'; rfl
  | _, _, _, .int, _, _, h' => by cases h'; rfl
  | _, _, _, .str, _, _, h' => by cases h'; rfl
  | _, _, _, .lst h r, _, _, h' => by
    cases h' with
    | lst k r' =>
      rw [h] at k; cases k
      rw [OwnDs.det g g' r r']
    | tup k r' =>
      have e1 := g' _ _ k
      rw [h] at e1; cases e1
  | _, _, _, .tup h r, _, _, h' => by
    cases h' with
    | lst k r' =>
      have e1 := g _ _ h
      rw [k] at e1; cases e1
    | tup k r' =>
      have e1 := g _ _ h
      rw [g' _ _ k] at e1; cases e1
      exact OwnDs.det g g' r r'
theorem OwnDs.det (g : Ex G H) (g' : Ex G' H) : ∀ {v : List V} {d : List D} {A : List Addr}, OwnDs G H v d A → ∀ {d' : List D} {A' : List Addr}, OwnDs G' H v d' A' → A = A'
  | _, _, _, .nil, _, _, h' => by cases h'; rfl
  | _, _, _, .cons r t, _, _, h' => by
    cases h' with
    | cons r' t' => rw [OwnD.det g g' r r', OwnDs.det g g' t t']
end
theorem Own.det (g : Ex G H) (g' : Ex G' H) : ∀ {sh : Sh} {v : V} {d d' : D} {A A' : List Addr}, Own K cl G H sh v d A → Own K cl G' H sh v d' A' → A = A'
  | .v, _, _, _, _, _, h, h' => by rw [h.1, h'.1]
  | .l e, _, _, _, _, _, ⟨p, vs, ds, A1, rfl, _, h3, rfl, h5⟩, ⟨p', vs', ds', A1', e', _, h3', rfl, h5'⟩ => by
    cases e'
    rw [h3] at h3'; cases h3'
    have := OwnL.det (R := Own K cl G H e) (R' := Own K cl G' H e) (fun v d d' A A' r r' => Own.det g g' (sh := e) r r') h5 h5'
    rw [this]
  | .i p, _, _, _, _, _, ⟨dx, c, fs, ds, h1, h2, h3, h4, h5⟩, ⟨dx', c', fs', ds', k1, k2, k3, k4, k5⟩ => by rw [h4, k4]
  | .j po f, _, _, _, _, _, ⟨p, dx, c, vs, ds, A1, rfl, _, _, h3, rfl, h5⟩, ⟨p', dx', c', vs', ds', A1', e', _, _, h3', rfl, h5'⟩ => by
    cases e'
    rw [h3] at h3'
    injection h3' with h3'
    injection h3' with _ _ e3
    subst e3
    have := OwnF.det (R := fun n => Own K cl G H (f n)) (R' := fun n => Own K cl G' H (f n)) (fun n v d d' A A' r r' => Own.det g g' (sh := f n) r r') h5 h5'
    rw [this]
  | .t f, _, _, _, _, _, ⟨p, vs, ds, rfl, _, h3, h5⟩, ⟨p', vs', ds', e', _, h3', h5'⟩ => by
    cases e'
    have e1 := g _ _ h3
    rw [g' _ _ h3'] at e1; cases e1
    exact OwnT.det (R := fun n => Own K cl G H (f n)) (R' := fun n => Own K cl G' H (f n)) (fun n v d d' A A' r r' => Own.det g g' (sh := f n) r r') h5 h5'
  | .d, _, _, _, _, _, h, h' => OwnD.det g g' h h'
end
end Oh
namespace Oh
open PySem PySem.Spec PyProof.Rows L2 Evl
/-! ### shapes of fields, written as lists -/
noncomputable def shF (l : List (Str × Sh)) (n : Str) : Sh := (l.lookup n).getD .v
section
variable {K : PySem.W.Frag} {cl : Cl} {S S1 S2 S3 : List Sl} {te tk : TE} {m n : Option D} {i : Nat} {mp : Option (List Stp)}
/-- an EVO given away at once -/
theorem EVO.ev {sh : Sh} (h : EVO K cl sh te S m S1) : EV K cl te S m S1 := fun B G H σ I d e Q q => by
  refine h B G H σ I d e Q fun v G' H' I' g1 h1 => ?_
  have hi : (S1 ++ [Sl.ow sh d])[S1.length]? = some (.ow sh d) := by rw [List.getElem?_append_right (Nat.le_refl _), Nat.sub_self]; rfl
  obtain ⟨w, G2, hw, g2, rw2, I2⟩ := I'.share hi
  have ln : σ.length = S1.length := by have := I'.len; rw [List.length_append, List.length_append] at this; exact Nat.add_right_cancel this
  rw [List.getElem?_append_right (by rw [ln]; exact Nat.le_refl _), ln, Nat.sub_self] at hw
  cases hw
  have e1 : (S1 ++ [Sl.ow sh d]).set S1.length (.vl d) = S1 ++ [Sl.vl d] := by rw [List.set_append_right _ _ (Nat.le_refl _), Nat.sub_self]; rfl
  rw [e1] at I2
  obtain ⟨AA, hs, ap⟩ := I2.slots
  have I3 : Sig K cl B G2 H' S1 σ := ⟨I2.nxt, ln, I2.tab, AA, fun j s hj => by
    have hl2 := (List.getElem?_eq_some_iff.mp hj).1
    obtain ⟨o, e1, e2⟩ := hs j s (by rw [List.getElem?_append_left hl2]; exact hj)
    rw [List.getElem?_append_left (by rw [ln]; exact hl2)] at e1
    exact ⟨o, e1, e2⟩, fun j k ne hj hk => ap j k ne (by rw [List.length_append]; exact Nat.lt_succ_of_lt hj) (by rw [List.length_append]; exact Nat.lt_succ_of_lt hk)⟩
  exact q v G2 H' I3 (g1.trans g2) h1 rw2
end
section
variable {X : Cx} (K : PySem.W.Frag) {e e2 : Expr} {ta : TA} {p pos p2 pos2 tpos : Pos} {elts : List Expr} {kk : Nat}
end
theorem pure_con {P : Program} {w : World} {K : PySem.W.Frag} {cl : Cl} {mg : Str → Option Value} {base : Heap} {mn qual : Str} {st : Stmt} {fa : Addr} {fd : FuncData} {N ps : List Str} {k n c : Nat} {f : List D → Option D}
    (F : Fun K mn qual st fa fd) (SC : FnScope N ps (defScope st)) (hn : ps.length = n) (ar : ∀ ds d, f ds = some d → ds.length = n) (hm : Meth K (cl.c c) mn fa) (hb : Binds K fd ps [])
    (body : ∀ (cdv : Value) (A : Around) (outer : List Env) (s : Shared) (H : Hp) (E : XK), Room k (A.deeper (envOfC qual (defScope st) s.heap.objs.size fa cdv)) →
      ∃ t, PSs (cxOf CX0 P w K mg base N qual (defScope st) fa cdv A outer s H E).nox (defBody st) t ∧ ∀ ds : List D, ds.length = n → TV K cl t (ds.map .vl ++ List.replicate (N.length - n) .jk) true (f ds)) : ConM P w K cl mg base (k + 1) c mn f fa fd ps := by
  refine ⟨F.ok SC (fun vs H Q E h => ?_) (fun cdv A outer s H vs Q E hr h => ?_), hm, hb⟩
  · obtain ⟨G, ds, d, _, _, rs, e, _⟩ := h
    rw [rs.length, ar ds d e, hn]
  · obtain ⟨G, ds, d, gh, tb, rs, e, q⟩ := h
    obtain ⟨t, hp, ht⟩ := body cdv A outer s H E hr
    have hl := ar ds d e
    have hv : vs.length = n := rs.length.trans hl
    refine ⟨t, hp, ?_⟩
    have e0 : L2.start N vs = vs.map some ++ List.replicate (N.length - n) none := by unfold L2.start; rw [hv]
    rw [e0]
    refine ht ds hl ⟨G, H⟩ G H _ ⟨Nxt.refl gh, by simp [rs.length], tb, fun _ => [], fun i s hs => ?_, fun _ _ _ _ _ _ z => nomatch z⟩ d e _ (fun v G' H' nx r => q v G' H' nx r) (fun _ hd σ' G' H' nx => ?_)
    · obtain ⟨o, h1, h2⟩ := slot_start rs hs
      refine ⟨o, h1, ?_⟩
      rcases h2 with rfl | ⟨v, d', rfl, rfl, rv⟩
      · rfl
      · exact ⟨rfl, v, rfl, rv⟩
    · subst hd
      exact q .non G' H' nx .non
section
variable {K : PySem.W.Frag} {cl : Cl} {S S1 S2 : List Sl} {te : TE} {m : Option D}
end
end Oh
namespace PySem.W
open PySem PySem.Calls
end PySem.W
namespace Oh
open PySem PySem.Spec PyProof.Rows L2 Evl
theorem log2_lt {n k : Nat} (h : n < 2 ^ k) (hk : 0 < k) : n.log2 < k := by
  by_cases z : n = 0
  · rw [z, Nat.log2_zero]; exact hk
  · exact (Nat.log2_lt z).mpr h
section
variable {K : PySem.W.Frag} {cl : Cl}
end
end Oh
namespace Oh
open PySem PySem.Spec PyProof.Rows L2 Evl
/-! ### values that are new at any depth: all lists and tuples are owned -/
mutual
inductive OwnA (H : Hp) : V → D → List Addr → Prop
  | non : OwnA H .non .non []
  | bl {b : Bool} : OwnA H (.bl b) (.bl b) []
  | int {i : Int} : OwnA H (.int i) (.int i) []
  | str {x : Str} : OwnA H (.str x) (.str x) []
  | lst {p : Addr} {vs : List V} {ds : List D} {A : List Addr} : H p = some (.lst vs) → OwnAs H vs ds A → OwnA H (.ref p) (.lst ds) (p :: A)
  | tup {p : Addr} {vs : List V} {ds : List D} {A : List Addr} : H p = some (.tup vs) → OwnAs H vs ds A → OwnA H (.ref p) (.tup ds) (p :: A)
inductive OwnAs (H : Hp) : List V → List D → List Addr → Prop
  | nil : OwnAs H [] [] []
  | cons {v : V} {d : D} {A : List Addr} {vs : List V} {ds : List D} {As : List Addr} : OwnA H v d A → OwnAs H vs ds As → OwnAs H (v :: vs) (d :: ds) (A ++ As)
end
section
variable {K : PySem.W.Frag} {cl : Cl} {G G' H H' : Hp} {B : Bs} {S S1 S2 S3 : List Sl} {σ : L2.St} {te ta tb : TE} {tt : TT} {m n : Option D} {t u : TS}
mutual
theorem OwnA.step : ∀ {v d A}, (∀ p ∈ A, ∀ (u : HO) [NT u], H p = some u → H' p = some u) → OwnA H v d A → OwnA H' v d A
  | _, _, _, _, .non => .non
  | _, _, _, _, .bl => .bl
  | _, _, _, _, .int => .int
  | _, _, _, _, .str => .str
  | _, _, _, k, .lst h r => .lst (k _ List.mem_cons_self _ h) (OwnAs.step (fun p hp => k p (List.mem_cons_of_mem _ hp)) r)
  | _, _, _, k, .tup h r => .tup (k _ List.mem_cons_self _ h) (OwnAs.step (fun p hp => k p (List.mem_cons_of_mem _ hp)) r)
theorem OwnAs.step : ∀ {v d A}, (∀ p ∈ A, ∀ (u : HO) [NT u], H p = some u → H' p = some u) → OwnAs H v d A → OwnAs H' v d A
  | _, _, _, _, .nil => .nil
  | _, _, _, k, .cons h r => .cons (OwnA.step (fun p hp => k p (List.mem_append_left _ hp)) h) (OwnAs.step (fun p hp => k p (List.mem_append_right _ hp)) r)
end
mutual
theorem OwnA.inH : ∀ {v d A}, OwnA H v d A → ∀ p ∈ A, H p ≠ none
  | _, _, _, .non, _, z => nomatch z
  | _, _, _, .bl, _, z => nomatch z
  | _, _, _, .int, _, z => nomatch z
  | _, _, _, .str, _, z => nomatch z
  | _, _, _, .lst h r, p, z => (List.mem_cons.mp z).elim (fun e => by rw [e, h]; exact fun z => nomatch z) (OwnAs.inH r p)
  | _, _, _, .tup h r, p, z => (List.mem_cons.mp z).elim (fun e => by rw [e, h]; exact fun z => nomatch z) (OwnAs.inH r p)
theorem OwnAs.inH : ∀ {v d A}, OwnAs H v d A → ∀ p ∈ A, H p ≠ none
  | _, _, _, .nil, _, z => nomatch z
  | _, _, _, .cons h r, p, z => (List.mem_append.mp z).elim (OwnA.inH h p) (OwnAs.inH r p)
end
theorem OwnAs.len : ∀ {vs ds A}, OwnAs H vs ds A → vs.length = ds.length
  | _, _, _, .nil => rfl
  | _, _, _, .cons _ r => congrArg (· + 1) r.len
mutual
theorem OwnA.rep : ∀ {v d A}, (∀ p ∈ A, G' p = H p) → OwnA H v d A → Rep K cl G' v d
  | _, _, _, _, .non => .non
  | _, _, _, _, .bl => .bl
  | _, _, _, _, .int => .int
  | _, _, _, _, .str => .str
  | _, _, _, k, .lst h r => .lst ((k _ List.mem_cons_self).trans h) (OwnAs.rep (fun p hp => k p (List.mem_cons_of_mem _ hp)) r)
  | _, _, _, k, .tup h r => .tup (st_of ((k _ List.mem_cons_self).trans h)) (OwnAs.rep (fun p hp => k p (List.mem_cons_of_mem _ hp)) r)
theorem OwnAs.rep : ∀ {v d A}, (∀ p ∈ A, G' p = H p) → OwnAs H v d A → Reps K cl G' v d
  | _, _, _, _, .nil => .nil
  | _, _, _, k, .cons h r => .cons (OwnA.rep (fun p hp => k p (List.mem_append_left _ hp)) h) (OwnAs.rep (fun p hp => k p (List.mem_append_right _ hp)) r)
end
/-- data of a shape: lists to its depth -/
noncomputable def fitB : Sh → D → Bool
  | .v, _ => true
  | .l e, .lst ds => ds.all (fitB e)
  | _, _ => false
noncomputable def fitD (sh : Sh) (d : D) : Option D := if fitB sh d = true then some d else none
theorem OwnA.frz : ∀ {sh : Sh} {v d A}, fitB sh d = true → OwnA H v d A → A.Nodup → ∃ A', A'.Sublist A ∧ ∀ G', (∀ p ∈ A, p ∉ A' → G' p = H p) → Own K cl G' H sh v d A'
  | .v, v, d, A, _, o, _ => ⟨[], List.nil_sublist _, fun G' k => ⟨rfl, o.rep fun p hp => k p hp (fun z => nomatch z)⟩⟩
  | .l e, v, d, A, f, o, nd => by
    cases o with
    | lst h r =>
      rename_i p vs ds A
      obtain ⟨np, nd2⟩ := List.nodup_cons.mp nd
      have f' : ∀ x ∈ ds, fitB e x = true := List.all_eq_true.mp f
      have key : ∀ {vs ds A}, OwnAs H vs ds A → (∀ x ∈ ds, fitB e x = true) → A.Nodup → ∃ A', A'.Sublist A ∧ ∀ G', (∀ p ∈ A, p ∉ A' → G' p = H p) → OwnL (Own K cl G' H e) vs ds A' := by
        clear nd np nd2 f f' r h
        intro vs ds
        induction ds generalizing vs with
        | nil => intro A r _ _; cases r; exact ⟨[], .slnil, fun _ _ => .nil⟩
        | cons d0 ds ih =>
          intro A r hf nd
          cases r with
          | cons o t =>
            rename_i v0 A0 vs0 As
            obtain ⟨n1, n2, dj⟩ := List.nodup_append.mp nd
            obtain ⟨A1, s1, k1⟩ := OwnA.frz (sh := e) (hf _ List.mem_cons_self) o n1
            obtain ⟨A2, s2, k2⟩ := ih t (fun x hx => hf x (List.mem_cons_of_mem _ hx)) n2
            exact ⟨A1 ++ A2, s1.append s2, fun G' k => .cons (k1 G' fun p hp np => k p (List.mem_append_left _ hp) fun z => (List.mem_append.mp z).elim np fun y => dj p hp p (s2.subset y) rfl)
              (k2 G' fun p hp np => k p (List.mem_append_right _ hp) fun z => (List.mem_append.mp z).elim (fun y => dj p (s1.subset y) p hp rfl) np)⟩
      obtain ⟨A2, s2, k2⟩ := key r f' nd2
      exact ⟨p :: A2, s2.cons_cons p, fun G' k => ⟨p, vs, ds, A2, rfl, rfl, h, rfl, k2 G' fun q hq nq => k q (List.mem_cons_of_mem _ hq) fun z => (List.mem_cons.mp z).elim (fun y => np (by rw [← y]; exact hq)) nq⟩⟩
    | _ => cases f
  | .i _, v, d, A, f, o, _ => by cases f
  | .j _ _, v, d, A, f, o, _ => by cases f
  | .t _, v, d, A, f, o, _ => by cases f
/-- a new value, all of it owned -/
noncomputable def EVA (K : PySem.W.Frag) (cl : Cl) (te : TE) (S : List Sl) (m : Option D) (S' : List Sl) : Prop := ∀ (B : Bs) (G H : Hp) (σ : L2.St), Sig K cl B G H S σ → ∀ d, m = some d → ∀ Q : VK,
  (∀ v A G1 H1 G' H', Sig K cl B G1 H1 S' σ → Ex G G1 → Ex2 H H1 → Nxt G1 H1 G' H' → OwnA H' v d A → A.Nodup → (∀ p ∈ A, H1 p = none ∧ G' p = none) → Q v H') → te σ H Q
/-- part of it is given away -/
theorem nxt_part {A A' : List Addr} (n : Nxt G H G' H') (h : ∀ p ∈ A, H p = none ∧ G' p = none) : Nxt G H (fun b => if b ∈ A ∧ b ∉ A' then H' b else G' b) H' :=
  ⟨n.g.trans fun a u e => by
    show (if a ∈ A ∧ a ∉ A' then H' a else G' a) = _
    rw [if_neg fun z => by rw [(h a z.1).2] at e; cases e]; exact e, n.h, fun a u e => by
    by_cases z : a ∈ A ∧ a ∉ A'
    · rw [if_pos z] at e; exact e
    · rw [if_neg z] at e; exact n.gh a u e, fun a e => by
    by_cases z : a ∈ A ∧ a ∉ A'
    · exact .inr (h a z.1).1
    · rw [if_neg z] at e; exact n.fr a e⟩
theorem EVA.evo {sh : Sh} (h : EVA K cl te S m S1) : EVO K cl sh te S (m.bind (fitD sh)) S1 := fun B G H σ I z e Q q => by
  obtain ⟨d, ed, e⟩ := bind_some e
  unfold fitD at e
  split at e
  · rename_i hf
    obtain rfl := Option.some.inj e
    refine h B G H σ I d ed _ fun v A G1 H1 G' H' I1 g1 h1 nx ow nd out => ?_
    obtain ⟨A', s, k⟩ := OwnA.frz (K := K) (cl := cl) hf ow nd
    have n2 := nxt_part (A' := A') nx out
    refine q v _ H' (I1.push n2 (k _ fun p hp np => if_pos ⟨hp, np⟩) (s.nodup nd) fun p hp => ⟨(out p (s.subset hp)).1, ?_⟩) (g1.trans n2.g) (h1.trans n2.h)
    show (if p ∈ A ∧ p ∉ A' then H' p else G' p) = none
    rw [if_neg fun z => z.2 hp]; exact (out p (s.subset hp)).2
  · cases e
end
end Oh
namespace Oh
open PySem PySem.Spec PyProof.Rows L2 Evl
section
variable {P : Program} {w : World} {K : PySem.W.Frag} {cl : Cl} {mg : Str → Option Value} {base : Heap} {C : Addr} {E : XK} {H0 : Hp}
end
end Oh
namespace Oh
open PySem PySem.Spec PyProof.Rows L2 Evl
section
variable {X : Cx} {cl : Cl} {C C1 C2 C3 : Addr} {i : Nat} {fx : List D → Bool}
/-- return isinstance(e, c1) and not isinstance(e, c2) and not isinstance(e, c3) -/
theorem isi_boot : bootBuiltins "isinstance" = some (.builtin "isinstance") := by decide +kernel
end
end Oh
namespace Oh
open PySem PySem.Spec PyProof.Rows L2 Evl
section
variable {K : PySem.W.Frag} {cl : Cl} {H0 : Hp} {C : Addr} {E : XK}
end
end Oh
namespace Oh
open PySem PySem.Spec PyProof.Rows L2 Evl
/-! ### tuples that hold what is owned -/
noncomputable def ovr (H0 H : Hp) (A : List Addr) : Hp := fun p => if p ∈ A then H p else H0 p
theorem ovr_in {H0 H : Hp} {A : List Addr} {p : Addr} (h : p ∈ A) : ovr H0 H A p = H p := if_pos h
theorem ovr_out {H0 H : Hp} {A : List Addr} {p : Addr} (h : p ∉ A) : ovr H0 H A p = H0 p := if_neg h
theorem ovr_nil {H0 H : Hp} : ovr H0 H [] = H0 := funext fun p => ovr_out (fun z => nomatch z)
section
variable {K : PySem.W.Frag} {cl : Cl} {G G' H H' H1 : Hp} {B : Bs} {S S1 S2 S3 : List Sl} {σ : L2.St} {te tk ta : TE} {tt : TT} {m n : Option D} {t u : TS} {sh : Sh} {d : D} {v : V} {A : List Addr}
/-- an owned thing is set aside: as if it had stood at the entry -/
theorem Sig.res (I : Sig K cl B G H S σ) {i : Nat} (h : S[i]? = some (.ow sh d)) :
    ∃ v A, σ[i]? = some (some v) ∧ Own K cl G H sh v d A ∧ A.Nodup ∧ (∀ p ∈ A, G p = none ∧ B.H p = none) ∧ Sig K cl ⟨B.G, ovr B.H H A⟩ G H (S.set i .jk) σ := by
  obtain ⟨AA, hs, ap⟩ := I.slots
  obtain ⟨o, h1, v, rfl, ow, nd, out⟩ := hs i _ h
  have hl : i < S.length := (List.getElem?_eq_some_iff.mp h).1
  refine ⟨v, AA i, h1, ow, nd, out, ⟨I.nxt.g, ⟨fun a u _ e => ?_, fun a ps e => ?_⟩, I.nxt.gh, fun a e => ?_⟩, by rw [List.length_set]; exact I.len, I.tab, atA AA i [], fun j s hj => ?_, fun j k n hj hk p hp => ?_⟩
  · by_cases z : a ∈ AA i
    · rw [show (⟨B.G, ovr B.H H (AA i)⟩ : Bs).H a = H a from ovr_in z] at e; exact e
    · rw [show (⟨B.G, ovr B.H H (AA i)⟩ : Bs).H a = B.H a from ovr_out z] at e; exact I.nxt.h a u e
  · by_cases z : a ∈ AA i
    · rw [show (⟨B.G, ovr B.H H (AA i)⟩ : Bs).H a = H a from ovr_in z] at e; exact ⟨ps, e, id⟩
    · rw [show (⟨B.G, ovr B.H H (AA i)⟩ : Bs).H a = B.H a from ovr_out z] at e; exact I.nxt.h.b a ps e
  · rcases I.nxt.fr a e with z | z
    · exact .inl z
    · by_cases y : a ∈ AA i
      · exact absurd (out a y).1 e
      · exact .inr ((ovr_out y).trans z)
  · by_cases e : i = j
    · subst e
      rw [List.getElem?_set_self hl] at hj
      cases hj
      exact ⟨_, h1, atA_e rfl⟩
    · rw [List.getElem?_set_ne e] at hj
      have hlj : j < S.length := (List.getElem?_eq_some_iff.mp hj).1
      obtain ⟨o, h2, h3⟩ := hs j s hj
      refine ⟨o, h2, ?_⟩
      rw [atA_n (fun z => e z.symm)]
      cases s with
      | jk => exact h3
      | vl d' => exact h3
      | ow sh' d' =>
        obtain ⟨v', e1, ow2, nd', out'⟩ := h3
        exact ⟨v', e1, ow2, nd', fun p hp => ⟨(out' p hp).1, (ovr_out fun y => ap j i (fun z => e z.symm) hlj hl p hp y).trans (out' p hp).2⟩⟩
  · rw [List.length_set] at hj hk
    by_cases ej : j = i
    · rw [atA_e ej] at hp; cases hp
    · rw [atA_n ej] at hp
      by_cases ek : k = i
      · rw [atA_e ek]; exact fun z => nomatch z
      · rw [atA_n ek]; exact ap j k n hj hk p hp
/-- what changed nothing of what was set aside, or only that -/
theorem Sig.back (I : Sig K cl ⟨B.G, ovr B.H H1 A⟩ G' H' S σ) (hH : ∀ p ∈ A, H1 p ≠ none) (out : ∀ p ∈ A, G' p = none ∧ B.H p = none) {H2 : Hp} (k : ∀ p, p ∉ A → H2 p = H' p) (kt : ∀ a, GxR.TabG H' a → a ∉ A) : Sig K cl B G' H2 S σ := by
  obtain ⟨AA, hs, ap⟩ := I.slots
  have off : ∀ {a}, B.H a ≠ none → a ∉ A := fun {a} h z => h (out a z).2
  refine ⟨⟨I.nxt.g, ⟨fun a u _ e => ?_, fun a ps e => ?_⟩, fun a u e => ?_, fun a e => ?_⟩, I.len, fun a ha => ?_, AA, fun j s hj => ?_, ap⟩
  · have z := off (a := a) (by rw [e]; simp)
    rw [k a z]; exact I.nxt.h a u ((ovr_out z).trans e)
  · have z := off (a := a) (by rw [e]; simp)
    obtain ⟨ps', e', o'⟩ := I.nxt.h.b a ps ((ovr_out z).trans e)
    exact ⟨ps', (k a z).trans e', o'⟩
  · rw [k a fun z => by rw [(out a z).1] at e; cases e]; exact I.nxt.gh a u e
  · rcases I.nxt.fr a e with z | z
    · exact .inl z
    · by_cases y : a ∈ A
      · exact .inr (out a y).2
      · exact .inr ((ovr_out y).symm.trans z)
  · obtain ⟨⟨ps, e, ok⟩, hg⟩ := I.tab a ha
    exact ⟨⟨ps, (k a (kt a ⟨ps, e, ok⟩)).trans e, ok⟩, hg⟩
  · obtain ⟨o, h1, h2⟩ := hs j s hj
    refine ⟨o, h1, ?_⟩
    cases s with
    | jk => exact h2
    | vl d' => exact h2
    | ow sh' d' =>
      obtain ⟨v', e1, ow2, nd', out'⟩ := h2
      have nA : ∀ p ∈ AA j, p ∉ A := fun p hp y => by
        have z : ovr B.H H1 A p = none := (out' p hp).2
        rw [ovr_in y] at z; exact hH p y z
      exact ⟨v', e1, ow2.step (Ex.refl _) fun p hp u _ hu => by rw [k p (nA p hp)]; exact hu, nd', fun p hp => ⟨(out' p hp).1, (ovr_out (nA p hp)).symm.trans (out' p hp).2⟩⟩
/-- what was set aside is held again, in a slot laid behind -/
theorem Sig.unres (I : Sig K cl ⟨B.G, ovr B.H H1 A⟩ G' H' S σ) (ow : Own K cl G' H' sh v d A) (nd : A.Nodup) (hH : ∀ p ∈ A, H1 p ≠ none) (out : ∀ p ∈ A, G' p = none ∧ B.H p = none) : Sig K cl B G' H' (S ++ [.ow sh d]) (σ ++ [some v]) := by
  have I2 : Sig K cl B G' H' S σ := I.back hH out (fun _ _ => rfl) fun a ta => ow.noT ta
  obtain ⟨AA, hs, ap⟩ := I.slots
  have L : (S ++ [Sl.ow sh d]).length = S.length + 1 := by rw [List.length_append]; rfl
  have nA : ∀ j, j < S.length → ∀ p ∈ AA j, p ∉ A := fun j hj p hp y => by
    obtain ⟨o, h1, h2⟩ := hs j S[j] (List.getElem?_eq_getElem hj)
    generalize S[j] = s at h2
    cases s with
    | jk => rw [h2] at hp; cases hp
    | vl d' => rw [h2.1] at hp; cases hp
    | ow sh' d' =>
      obtain ⟨v', _, _, _, out'⟩ := h2
      have z : ovr B.H H1 A p = none := (out' p hp).2
      rw [ovr_in y] at z; exact hH p y z
  refine ⟨I2.nxt, by rw [List.length_append, List.length_append, I.len]; rfl, I2.tab, atA AA S.length A, fun j s h => ?_, fun j k nn hj hk p hp => ?_⟩
  · have hl : j < S.length + 1 := by have := (List.getElem?_eq_some_iff.mp h).1; rwa [L] at this
    by_cases e : j = S.length
    · subst e
      rw [List.getElem?_append_right (Nat.le_refl _), Nat.sub_self] at h
      cases h
      refine ⟨some v, by rw [List.getElem?_append_right (by rw [I.len]; exact Nat.le_refl _), I.len, Nat.sub_self]; rfl, ?_⟩
      rw [atA_e rfl]
      exact ⟨v, rfl, ow, nd, fun p hp => out p hp⟩
    · have hj : j < S.length := by omega
      rw [List.getElem?_append_left hj] at h
      obtain ⟨o, h1, h2⟩ := hs j s h
      refine ⟨o, by rw [List.getElem?_append_left (by rw [I.len]; exact hj)]; exact h1, ?_⟩
      rw [atA_n e]
      cases s with
      | jk => exact h2
      | vl d' => exact h2
      | ow sh' d' =>
        obtain ⟨v', e1, ow2, nd', out'⟩ := h2
        exact ⟨v', e1, ow2, nd', fun p hp => ⟨(out' p hp).1, (ovr_out (nA j hj p hp)).symm.trans (out' p hp).2⟩⟩
  · rw [L] at hj hk
    by_cases ej : j = S.length
    · rw [atA_e ej] at hp
      rw [atA_n (fun z => nn (ej.trans z.symm))]
      exact fun z => nA k (by omega) p z hp
    · rw [atA_n ej] at hp
      by_cases ek : k = S.length
      · rw [atA_e ek]; exact fun z => nA j (by omega) p hp z
      · rw [atA_n ek]; exact ap j k nn (by omega) (by omega) p hp
theorem Sig.cut {s : Sl} {o : Option V} (I : Sig K cl B G H (S ++ [s]) (σ ++ [o])) : Sig K cl B G H S σ := by
  obtain ⟨AA, hs, ap⟩ := I.slots
  have hlen : σ.length = S.length := by have := I.len; rw [List.length_append, List.length_append] at this; exact Nat.add_right_cancel this
  have L : (S ++ [s]).length = S.length + 1 := by rw [List.length_append]; rfl
  refine ⟨I.nxt, hlen, I.tab, AA, fun j s' h => ?_, fun j k n hj hk => ap j k n (by omega) (by omega)⟩
  have hl : j < S.length := (List.getElem?_eq_some_iff.mp h).1
  obtain ⟨o', h1, h2⟩ := hs j s' (by rw [List.getElem?_append_left hl]; exact h)
  rw [List.getElem?_append_left (by rw [hlen]; exact hl)] at h1
  exact ⟨o', h1, h2⟩
/-- the slot laid behind is set aside -/
theorem Sig.res1 (I : Sig K cl B G H (S ++ [.ow sh d]) (σ ++ [some v])) : ∃ A, Own K cl G H sh v d A ∧ A.Nodup ∧ (∀ p ∈ A, G p = none ∧ B.H p = none) ∧ Sig K cl ⟨B.G, ovr B.H H A⟩ G H S σ := by
  have ln : σ.length = S.length := by have := I.len; rw [List.length_append, List.length_append] at this; exact Nat.add_right_cancel this
  obtain ⟨v', A, h1, ow, nd, out, I2⟩ := I.res (i := S.length) (by rw [List.getElem?_append_right (Nat.le_refl _), Nat.sub_self]; rfl)
  rw [List.getElem?_append_right (by rw [ln]; exact Nat.le_refl _), ln, Nat.sub_self] at h1
  cases h1
  rw [List.set_append_right _ _ (Nat.le_refl _), Nat.sub_self] at I2
  exact ⟨A, ow, nd, out, I2.cut⟩
/-! ### expressions whose value is owned, its shape told by what it is -/
noncomputable def EVD (K : PySem.W.Frag) (cl : Cl) (sh : D → Sh) (te : TE) (S : List Sl) (m : Option D) (S' : List Sl) : Prop := ∀ (B : Bs) (G H : Hp) (σ : L2.St), Sig K cl B G H S σ → ∀ d, m = some d → ∀ Q : VK,
  (∀ v G' H', Sig K cl B G' H' (S' ++ [.ow (sh d) d]) (σ ++ [some v]) → Ex G G' → Ex2 H H' → Q v H') → te σ H Q
theorem EVO.evd (h : EVO K cl sh te S m S1) : EVD K cl (fun _ => sh) te S m S1 := h
/-- what a name owns is moved -/
theorem evd_var {i : Nat} (h : S[i]? = some (.ow sh d)) : EVD K cl (fun _ => sh) (tVar i) S (some d) (S.set i .jk) := fun B G H σ I d' e Q q => by
  cases e
  obtain ⟨v, A, h1, ow, nd, out, I2⟩ := I.res h
  exact ⟨v, h1, q v G H (I2.unres ow nd ow.inH out) (Ex.refl _) (Ex2.refl _)⟩
/-- arguments, some owned -/
noncomputable def EAT (K : PySem.W.Frag) (cl : Cl) (f : Nat → Sh) (k n : Nat) (ta : TA) (S : List Sl) (m : Option (List D)) (S' : List Sl) : Prop := ∀ (B : Bs) (G H : Hp) (σ : L2.St), Sig K cl B G H S σ → ∀ ds, m = some ds → ∀ Q : List V → Hp → Prop,
  (∀ vs A G' H', Sig K cl ⟨B.G, ovr B.H H' A⟩ G' H' S' σ → Ex G G' → Ex2 H H' → OwnT (fun i => Own K cl G' H' (f i)) n vs ds A → A.Nodup → (∀ p ∈ A, G' p = none ∧ B.H p = none) → ds.length = k → Q vs H') → ta σ H Q
theorem eat_nil {f : Nat → Sh} {n : Nat} : EAT K cl f 0 n tNil S (some []) S := fun B G H σ I ds e Q q => by
  cases e
  exact q [] [] G H (by rw [ovr_nil]; exact I) (Ex.refl _) (Ex2.refl _) .nil .nil (fun p hp => nomatch hp) rfl
theorem OwnT.inN {f : Nat → Sh} {n : Nat} {vs : List V} {ds : List D} (h : OwnT (fun i => Own K cl G H (f i)) n vs ds A) : ∀ p ∈ A, ∃ u, H p = some u ∧ NT u := fun p hp =>
  h.inH (fun n v d A' r => Own.inN (sh := f n) r) p hp
theorem eat_v {f : Nat → Sh} {k n : Nat} {tr : TA} {ms : Option (List D)} (hf : f n = .v) (ha : EV K cl ta S m S1) (hr : EAT K cl f k (n + 1) tr S1 ms S2) : EAT K cl f (k + 1) n (tCons ta tr) S (m.bind fun x => ms.bind fun xs => some (x :: xs)) S2 := fun B G H σ I ds e Q q => by
  obtain ⟨a, ea, e⟩ := bind_some e
  obtain ⟨as, eas, e⟩ := bind_some e
  cases e
  refine ha B G H σ I a ea _ fun x G1 H1 I1 g1 h1 rx => ?_
  refine hr B G1 H1 σ I1 as eas _ fun vs A G2 H2 I2 g2 h2 rs nd out hl => ?_
  exact q _ A G2 H2 I2 (g1.trans g2) (h1.trans h2) (OwnT.cons (A := []) (by rw [hf]; exact ⟨rfl, rx.mono g2⟩) rs) nd out (by rw [List.length_cons, hl])
theorem eat_o {f : Nat → Sh} {k n : Nat} {tr : TA} {ms : Option (List D)} (ha : EVD K cl (fun _ => f n) ta S m S1) (hr : EAT K cl f k (n + 1) tr S1 ms S2) : EAT K cl f (k + 1) n (tCons ta tr) S (m.bind fun x => ms.bind fun xs => some (x :: xs)) S2 := fun B G H σ I ds e Q q => by
  obtain ⟨a, ea, e⟩ := bind_some e
  obtain ⟨as, eas, e⟩ := bind_some e
  cases e
  refine ha B G H σ I a ea _ fun x G1 H1 I1 g1 h1 => ?_
  obtain ⟨A1, ow, nd1, out1, I1'⟩ := I1.res1
  refine hr _ G1 H1 σ I1' as eas _ fun vs A2 G2 H2 I2 g2 h2 rs nd out hl => ?_
  have out : ∀ p ∈ A2, G2 p = none ∧ ovr B.H H1 A1 p = none := out
  have dj : ∀ p ∈ A1, p ∉ A2 := fun p hp z => by
    have y := (out p z).2
    rw [ovr_in hp] at y; exact ow.inH p hp y
  have kp : ∀ p ∈ A1, H2 p = H1 p := fun p hp => by
    obtain ⟨w, e1, nw⟩ := ow.inN p hp
    rw [e1]; exact h2 p w e1
  have ow2 : Own K cl G2 H2 (f n) x a A1 := ow.step g2 fun p hp u _ hu => by rw [kp p hp]; exact hu
  have eo : ovr (ovr B.H H1 A1) H2 A2 = ovr B.H H2 (A1 ++ A2) := funext fun p => by
    by_cases z : p ∈ A2
    · rw [ovr_in z, ovr_in (List.mem_append_right _ z)]
    · rw [ovr_out z]
      by_cases y : p ∈ A1
      · rw [ovr_in y, ovr_in (List.mem_append_left _ y), kp p y]
      · rw [ovr_out y, ovr_out fun w => (List.mem_append.mp w).elim y z]
  have I3 : Sig K cl ⟨B.G, ovr (ovr B.H H1 A1) H2 A2⟩ G2 H2 S2 σ := I2
  rw [eo] at I3
  refine q _ (A1 ++ A2) G2 H2 I3 (g1.trans g2) (h1.trans h2) (.cons ow2 rs) (List.nodup_append.mpr ⟨nd1, nd, fun a ha b hb z => dj a ha (by rw [z]; exact hb)⟩) (fun p hp => ?_) (by rw [List.length_cons, hl])
  rcases List.mem_append.mp hp with z | z
  · refine ⟨?_, (out1 p z).2⟩
    cases e2 : G2 p with
    | none => rfl
    | some w =>
      rcases I2.nxt.fr p (by rw [e2]; simp) with y | y
      · have : B.G p ≠ none := y
        cases e3 : B.G p with
        | none => exact absurd e3 this
        | some w2 => have := I1.nxt.g _ _ e3; rw [(out1 p z).1] at this; cases this
      · have y : ovr (ovr B.H H1 A1) H2 A2 p = none := y
        rw [ovr_out (dj p z), ovr_in z] at y
        exact absurd y (ow.inH p z)
  · exact ⟨(out p z).1, (ovr_out fun y => dj p y z).symm.trans (out p z).2⟩
theorem evd_tup {f : Nat → Sh} {k : Nat} {sh : D → Sh} {ts : TA} {ms : Option (List D)} (ha : EAT K cl f k 0 ts S ms S1) (hs : ∀ ds : List D, ds.length = k → sh (.tup ds) = .t f) : EVD K cl sh (tTup ts) S (ms.bind (few .tup)) S1 := fun B G H σ I z e Q q => by
  obtain ⟨ds, eds, e⟩ := bind_some e
  unfold few at e
  split at e
  · rename_i hl
    cases e
    refine ha B G H σ I ds eds _ fun vs A G1 H1 I1 g1 h1 rs nd out hk => ?_
    refine ⟨sz_of (by rw [rs.len]; exact hl), fun p hp => ?_⟩
    have nx := Nxt.new (o := .tup vs) I1.nxt.gh hp
    have hA : ∀ q ∈ A, q ≠ p := fun q hq z => by
      obtain ⟨w, e1, _⟩ := rs.inN q hq
      rw [z, hp] at e1; cases e1
    have ow : Own K cl (upd G1 p (.tup vs)) (upd H1 p (.tup vs)) (sh (.tup ds)) (.ref p) (.tup ds) A := by
      rw [hs ds hk]
      exact ⟨p, vs, ds, rfl, rfl, upd_same, rs.imp fun i v d A' s r => Own.step (sh := f i) nx.g (fun q hq u _ hu => by rw [upd_ne (hA q (s hq))]; exact hu) r⟩
    exact q _ _ _ ((I1.step nx).unres ow nd (fun q hq => by obtain ⟨w, e1, _⟩ := rs.inN q hq; rw [e1]; simp) fun q hq => ⟨(upd_ne (hA q hq)).trans (out q hq).1, (out q hq).2⟩) (g1.trans nx.g) (h1.trans nx.h)
  · cases e
/-! ### defs that hand back what is owned -/
noncomputable def spS (K : PySem.W.Frag) (cl : Cl) (sh : D → Sh) (f : List D → Option D) : Sp := fun vs H Q _ => ∃ G ds d, Ex G H ∧ (∀ a ∈ cl.t, GxR.TabG H a ∧ G a = none) ∧ Reps K cl G vs ds ∧ f ds = some d ∧
  ∀ v A G' H', Nxt G H G' H' → Own K cl G' H' (sh d) v d A → A.Nodup → (∀ p ∈ A, H p = none ∧ G' p = none) → Q v H'
structure ConS (P : Program) (w : World) (K : PySem.W.Frag) (cl : Cl) (mg : Str → Option Value) (base : Heap) (k : Nat) (x : Str) (sh : D → Sh) (f : List D → Option D) (fa : Addr) (fd : FuncData) (ps : List Str) : Prop where
  ok : FnOk P w K mg base CX0 k fa fd ps (spS K cl sh f)
  mg : mg x = some (.ref fa)
  kp : PySem.W.keepIn K (.ref fa) = true
  bd : Binds K fd ps []
theorem evd_call {sh : D → Sh} {f : List D → Option D} {ts : TA} {ms : Option (List D)} {E : XK} (ha : EA K cl ts S ms S1) : EVD K cl sh (tCall (spS K cl sh f) [] E ts) S (ms.bind f) S1 := fun B G H σ I z e Q q => by
  obtain ⟨ds, eds, e⟩ := bind_some e
  refine ha B G H σ I ds eds _ fun vs G1 H1 I1 g1 h1 rs => ?_
  exact ⟨G1, ds, z, I1.nxt.gh, I1.tab, by rw [List.append_nil]; exact rs, e, fun v A G' H' nx ow nd out => q v G' H' (I1.push nx ow nd out) (g1.trans nx.g) (h1.trans nx.h)⟩
theorem sv_asgD {i : Nat} {sh : D → Sh} (h : EVD K cl sh te S m S1) : SV K cl (tAsg te (gName i)) S m (fun d => S1.set i (.ow (sh d) d)) := fun B G H σ I d e Dn q =>
  h B G H σ I d e _ fun v G' H' I' _ _ => q _ G' H' (I'.take i)
noncomputable def AVD (K : PySem.W.Frag) (cl : Cl) (sh : D → Sh) (ts : TS) (S : List Sl) (m : Option D) : Prop := ∀ (B : Bs) (G H : Hp) (σ : L2.St), Sig K cl B G H S σ → ∀ d, m = some d → ∀ Dn : Ends,
  (∀ v A G' H', Nxt B.G B.H G' H' → Own K cl G' H' (sh d) v d A → A.Nodup → (∀ p ∈ A, B.H p = none ∧ G' p = none) → Dn.rt v H') → ts Dn σ H
theorem avd_ret {sh : D → Sh} (h : EVD K cl sh te S m S1) : AVD K cl sh (tSeq (tRet te) tNever) S m := fun B G H σ I d e Dn q =>
  h B G H σ I d e _ fun v G' H' I' _ _ => by
    obtain ⟨A, ow, nd, out, _⟩ := I'.res1
    exact q v A G' H' I'.nxt ow nd fun p hp => ⟨(out p hp).2, (out p hp).1⟩
theorem avd_cons {β : Type} {sh : D → Sh} {mb : Option β} {post : β → List Sl} {k : β → Option D} (h : SV K cl t S mb post) (r : ∀ b, AVD K cl sh u (post b) (k b)) : AVD K cl sh (tSeq t u) S (mb.bind k) := fun B G H σ I d e Dn q => by
  obtain ⟨b, eb, e⟩ := bind_some e
  exact h B G H σ I b eb _ fun σ' G' H' I' => r b B G' H' σ' I' d e Dn q
theorem avd_ifl {sh : D → Sh} {mc : Option Bool} {ma mr : Option D} (hc : ET K cl tt S mc S1) (ha : AVD K cl sh t S1 ma) (hr : AVD K cl sh u S1 mr) : AVD K cl sh (tSeq (tIfS tt t tNext) u) S (mc.bind fun c => if c = true then ma else mr) := fun B G H σ I d e Dn q => by
  obtain ⟨c, ec, e⟩ := bind_some e
  refine hc B G H σ I c ec _ fun G1 H1 I1 _ _ => ?_
  cases c with
  | true => exact ha B G1 H1 σ I1 d e _ q
  | false => exact hr B G1 H1 σ I1 d e Dn q
theorem fun_conS {P : Program} {w : World} {mg : Str → Option Value} {base : Heap} {x qual : Str} {st : Stmt} {fa : Addr} {fd : FuncData} {N ps : List Str} {k n : Nat} {sh : D → Sh} {f : List D → Option D}
    (F : Fun K x qual st fa fd) (SC : FnScope N ps (defScope st)) (hn : ps.length = n) (ar : ∀ ds d, f ds = some d → ds.length = n) (hm : mg x = some (.ref fa)) (hb : Binds K fd ps [])
    (body : ∀ (cdv : Value) (A : Around) (outer : List Env) (s : Shared) (H : Hp) (E : XK), Room k (A.deeper (envOfC qual (defScope st) s.heap.objs.size fa cdv)) →
      ∃ t, PSs (cxOf CX0 P w K mg base N qual (defScope st) fa cdv A outer s H E).nox (defBody st) t ∧ ∀ ds : List D, ds.length = n → AVD K cl sh t (ds.map .vl ++ List.replicate (N.length - n) .jk) (f ds)) : ConS P w K cl mg base (k + 1) x sh f fa fd ps := by
  refine ⟨F.ok SC (fun vs H Q E h => ?_) (fun cdv A outer s H vs Q E hr h => ?_), hm, F.kp, hb⟩
  · obtain ⟨G, ds, d, _, _, rs, e, _⟩ := h
    rw [rs.length, ar ds d e, hn]
  · obtain ⟨G, ds, d, gh, tb, rs, e, q⟩ := h
    obtain ⟨t, hp, ht⟩ := body cdv A outer s H E hr
    have hl := ar ds d e
    have hv : vs.length = n := rs.length.trans hl
    refine ⟨t, hp, ?_⟩
    have e0 : L2.start N vs = vs.map some ++ List.replicate (N.length - n) none := by unfold L2.start; rw [hv]
    rw [e0]
    refine ht ds hl ⟨G, H⟩ G H _ ⟨Nxt.refl gh, by simp [rs.length], tb, fun _ => [], fun i s hs => ?_, fun _ _ _ _ _ _ z => nomatch z⟩ d e _ (fun v A G' H' nx ow nd out => q v A G' H' nx ow nd out)
    obtain ⟨o, h1, h2⟩ := slot_start rs hs
    refine ⟨o, h1, ?_⟩
    rcases h2 with rfl | ⟨v, d', rfl, rfl, rv⟩
    · rfl
    · exact ⟨rfl, v, rfl, rv⟩
/-! ### x[k].append(e): a list that an owned tuple holds; the tuple is not read again -/
theorem OwnT.at {R : Nat → V → D → List Addr → Prop} : ∀ {n vs ds A k dk}, OwnT R n vs ds A → ds[k]? = some dk → ∃ vk A1, vs[k]? = some vk ∧ R (n + k) vk dk A1 ∧ A1 ⊆ A
  | _, _, _, _, 0, _, .cons r t, h => by
    cases h
    exact ⟨_, _, rfl, r, List.subset_append_left _ _⟩
  | n, _, _, _, k + 1, _, .cons r t, h => by
    obtain ⟨vk, A1, h1, h2, h3⟩ := OwnT.at t (k := k) (by simpa using h)
    exact ⟨vk, A1, by simpa using h1, by rw [show n + (k + 1) = n + 1 + k by omega]; exact h2, fun p hp => List.mem_append_right _ (h3 hp)⟩
theorem atI_nat {α : Type} {xs : List α} {k : Nat} {x : α} (h : xs[k]? = some x) : atI xs (k : Int) = some x := by
  have hl : k < xs.length := (List.getElem?_eq_some_iff.mp h).1
  unfold atI ixN
  rw [if_pos (by omega), if_pos (by omega)]
  exact h
end
end Oh
namespace Oh
open PySem PySem.Spec PyProof.Rows L2 Evl
section
variable {K : PySem.W.Frag} {cl : Cl} {S S1 : List Sl} {te : TE} {m : Option D} {t : TS} {sh : Sh} {d : D}
theorem alld3 {k : Nat} {sh' : D → Sh} {f : D → D → D → Option D} (h : ∀ a b c, AVD K cl sh' t (.vl a :: .vl b :: .vl c :: List.replicate k .jk) (f a b c)) : ∀ ds : List D, ds.length = 3 → AVD K cl sh' t (ds.map .vl ++ List.replicate k .jk) (on3 f ds)
  | [a, b, c], _ => h a b c
end
/-- what the solver hands back -/
noncomputable def sh2 (n : Nat) : Sh := match n with | 1 => .l .v | _ => .v
noncomputable def sh3 (n : Nat) : Sh := match n with | 1 => .l .v | 2 => .l .v | _ => .v
end Oh
namespace Oh
open PySem PySem.Spec PyProof.Rows L2 Evl
section
variable {K : PySem.W.Frag} {cl : Cl} {G G' H H' : Hp} {B : Bs} {S S1 S2 S3 : List Sl} {σ : L2.St} {te : TE} {tt : TT} {m : Option D} {e : Sh}
end
end Oh
namespace Oh
open PySem PySem.Spec PyProof.Rows L2 Evl
section
variable {K : PySem.W.Frag} {cl : Cl} {G G' H H' : Hp} {B : Bs} {S S1 : List Sl} {σ : L2.St} {te : TE} {tt tt1 : TT} {m : Option D} {e : Sh}
end
end Oh
namespace Oh
open PySem PySem.Spec PyProof.Rows L2 Evl NdefX LamX
section
variable {K : PySem.W.Frag} {cl : Cl} {G G' H H' : Hp} {cs : List Addr} {S S1 S2 : List Sl} {ta : TA}
end
end Oh
namespace Oh
open PySem PySem.Spec PyProof.Rows L2 Evl
section
variable {K : PySem.W.Frag} {cl : Cl} {G G' H H' : Hp} {S S1 S2 : List Sl} {P : Addr} {φ : Bs → Prop} {β : Type}
end
end Oh
namespace Oh
open PySem PySem.Spec PyProof.Rows L2 Evl
section
variable {P : Program} {w : World} {K : PySem.W.Frag} {cl : Cl} {mg : Str → Option Value} {base : Heap} {T : Addr}
end
end Oh
namespace Oh
open PySem PySem.Spec PyProof.Rows L2 Evl NdefX LamX
section
variable {X : Cx}
end
end Oh
namespace Oh
open PySem PySem.Spec PyProof.Rows L2 Evl NdefX LamX
section
variable {P : Program} {w : World} {K : PySem.W.Frag} {cl : Cl} {mg : Str → Option Value} {base : Heap}
end
end Oh
namespace Oh
open PySem PySem.Spec PyProof.Rows L2 Evl NdefX LamX
section
variable {K : PySem.W.Frag} {cl : Cl} {G G' H H' : Hp} {S S1 : List Sl} {P : Addr}
end
end Oh
namespace Oh
open PySem PySem.Spec PyProof.Rows L2 Evl
section
variable {P : Program} {w : World} {K : PySem.W.Frag} {cl : Cl} {mg : Str → Option Value} {base : Heap} {T : Addr}
end
end Oh
namespace Oh
open PySem PySem.Spec PyProof.Rows L2 Evl NdefX LamX
section
variable {P : Program} {w : World} {K : PySem.W.Frag} {cl : Cl} {mg : Str → Option Value} {base : Heap} {S S1 : List Sl} {ta : TA}
end
end Oh
namespace Oh
open PySem PySem.Spec PyProof.Rows L2 Evl NdefX LamX
section
variable {K : PySem.W.Frag} {cl : Cl} {S S1 S2 : List Sl} {P P1 P2 : Addr} {φ : Bs → Prop} {β : Type}
end
section
variable {P : Program} {w : World} {K : PySem.W.Frag} {cl : Cl} {mg : Str → Option Value} {base : Heap} {Ts : List Addr}
end
/-! ### try: if c: f(..) / else: g(..) / except .. -/
section
variable {K : PySem.W.Frag} {cl : Cl} {S S1 S2 : List Sl} {C C1 C2 C3 : Addr}
end
end Oh
namespace Oh
open PySem PySem.Spec PyProof.Rows L2 Evl
/-! ### what is owned is changed and not read again -/
section
variable {K : PySem.W.Frag} {cl : Cl} {G G' H H' H1 H2 : Hp} {B : Bs} {S S1 : List Sl} {σ : L2.St} {A : List Addr}
/-- a list of pairs (x, list of triples (x, y, list)): p the list, Q the inner lists, R the innermost -/
structure SpI (LQ LR : Nat) (G H : Hp) (p : Addr) (vs : List V) (Q R : List Addr) : Prop where
  hp : H p = some (.lst vs)
  ev : ∀ v ∈ vs, ∃ t x q, v = .ref t ∧ G t = some (.tup [x, .ref q]) ∧ q ∈ Q
  q : ∀ q ∈ Q, ∃ us, H q = some (.lst us) ∧ us.length ≤ LQ ∧ ∀ u ∈ us, ∃ t x y r, u = .ref t ∧ G t = some (.tup [x, y, .ref r]) ∧ r ∈ R
  r : ∀ r ∈ R, ∃ ws, H r = some (.lst ws) ∧ ws.length ≤ LR
  pq : p ∉ Q
  pr : p ∉ R
  qr : ∀ a ∈ Q, a ∉ R
variable {p : Addr} {vs : List V} {Q R : List Addr} {LQ LR LQ' LR' : Nat}
theorem SpI.mono (I : SpI LQ LR G H p vs Q R) (g : Ex G G') (h : ∀ a ∈ p :: (Q ++ R), H' a = H a) (lq : LQ ≤ LQ') (lr : LR ≤ LR') : SpI LQ' LR' G' H' p vs Q R :=
  ⟨(h p List.mem_cons_self).trans I.hp, fun v hv => by
    obtain ⟨t, x, q, e1, e2, e3⟩ := I.ev v hv
    exact ⟨t, x, q, e1, g _ _ e2, e3⟩, fun q hq => by
    obtain ⟨us, e, l, hu⟩ := I.q q hq
    refine ⟨us, (h q (List.mem_cons_of_mem _ (List.mem_append_left _ hq))).trans e, Nat.le_trans l lq, fun u hu' => ?_⟩
    obtain ⟨t, x, y, r, e1, e2, e3⟩ := hu u hu'
    exact ⟨t, x, y, r, e1, g _ _ e2, e3⟩, fun r hr => by
    obtain ⟨ws, e, l⟩ := I.r r hr
    exact ⟨ws, (h r (List.mem_cons_of_mem _ (List.mem_append_right _ hr))).trans e, Nat.le_trans l lr⟩, I.pq, I.pr, I.qr⟩
noncomputable def tri : Nat → Sh := fun n => match n with | 2 => .l .v | _ => .v
noncomputable def par : Nat → Sh := fun n => match n with | 1 => .l (.t tri) | _ => .v
end
end Oh
namespace Oh
open PySem PySem.Spec PyProof.Rows L2 Evl
section
variable {K : PySem.W.Frag} {cl : Cl} {G G' H H' : Hp} {B : Bs} {S : List Sl} {σ : L2.St} {A : List Addr} {p : Addr} {vs : List V} {Q R : List Addr} {LQ LR : Nat} {te te2 : TE} {m : Option D} {d : D}
/-- the area of what is spoiled -/
structure Ar (B : Bs) (G H : Hp) (A : List Addr) : Prop where
  out : ∀ x ∈ A, G x = none ∧ B.H x = none
  inn : ∀ x ∈ A, ∃ u, H x = some u ∧ NT u
theorem Ar.ne (a : Ar B G H A) : ∀ x ∈ A, H x ≠ none := fun x hx z => by
  obtain ⟨u, e, _⟩ := a.inn x hx
  rw [z] at e; cases e
theorem Ar.nt (a : Ar B G H A) {x : Addr} (t : GxR.TabG H x) : x ∉ A := fun hx => by
  obtain ⟨u, e, n⟩ := a.inn x hx
  obtain ⟨ps, e2, _⟩ := t
  rw [e] at e2; cases e2
  exact n.nt _ rfl
theorem Ar.upd (a : Ar B G H A) {q : Addr} {ws : List V} : Ar B G (upd H q (.lst ws)) A := ⟨a.out, fun x hx => by
  by_cases z : x = q
  · rw [z]; exact ⟨_, upd_same, inferInstance⟩
  · rw [upd_ne z]; exact a.inn x hx⟩
end
end Oh
namespace Oh
open PySem PySem.Spec PyProof.Rows L2 Evl
section
variable {K : PySem.W.Frag} {cl : Cl} {G G' H H' : Hp} {B : Bs} {S : List Sl} {σ : L2.St} {A : List Addr} {p : Addr} {vs : List V} {Q R : List Addr} {LQ LR : Nat} {te te2 : TE} {m m2 : Option D} {d da db : D}
end
end Oh
namespace Oh
open PySem PySem.Spec PyProof.Rows L2 Evl
end Oh
namespace Oh
open PySem PySem.Spec PyProof.Rows L2 Evl
section
variable {K : PySem.W.Frag} {cl : Cl} {G G' H H' : Hp} {B : Bs} {S S1 : List Sl} {σ : L2.St} {te : TE} {m : Option D}
theorem Sig.share2 (I : Sig K cl B G H S σ) {i : Nat} {sh : Sh} {d : D} (h : S[i]? = some (.ow sh d)) :
    ∃ v G', σ[i]? = some (some v) ∧ Ex G G' ∧ Rep K cl G' v d ∧ Sig K cl B G' H (S.set i (.vl d)) σ ∧ ∀ A', Own K cl G H sh v d A' → ∀ p ∈ A', G' p ≠ none := by
  obtain ⟨A, hs, ap⟩ := I.slots
  obtain ⟨o, h1, v, rfl, ow, nd, out⟩ := hs i _ h
  have hl : i < S.length := (List.getElem?_eq_some_iff.mp h).1
  have eg : Ex G (fun b => if b ∈ A i then H b else G b) := fun a u e => by
    show (if a ∈ A i then H a else G a) = _
    rw [if_neg (fun z => by rw [(out a z).1] at e; cases e)]; exact e
  have rp : Rep K cl (fun b => if b ∈ A i then H b else G b) v d := ow.rep eg fun p hp => if_pos hp
  refine ⟨v, _, h1, eg, rp, ⟨⟨I.nxt.g.trans eg, I.nxt.h, fun a u e => ?_, fun a e => ?_⟩, by rw [List.length_set]; exact I.len, fun a ha => ⟨(I.tab a ha).1, by show (if a ∈ A i then H a else G a) = none; rw [if_neg (ow.noT (I.tab a ha).1)]; exact (I.tab a ha).2⟩, atA A i ([]), fun j s hj => ?_, fun j k n hj hk p hp => ?_⟩, fun A' ow' p hp => ?_⟩
  · by_cases z : a ∈ A i
    · rw [if_pos z] at e; exact e
    · rw [if_neg z] at e; exact I.nxt.gh a u e
  · by_cases z : a ∈ A i
    · exact .inr (out a z).2
    · rw [if_neg z] at e; exact I.nxt.fr a e
  · by_cases e : i = j
    · subst e
      rw [List.getElem?_set_self hl] at hj
      cases hj
      exact ⟨_, h1, atA_e rfl, _, rfl, rp⟩
    · rw [List.getElem?_set_ne e] at hj
      have hlj : j < S.length := (List.getElem?_eq_some_iff.mp hj).1
      obtain ⟨o, h2, h3⟩ := hs j s hj
      refine ⟨o, h2, ?_⟩
      rw [atA_n (fun z => e z.symm)]
      cases s with
      | jk => exact h3
      | vl d' =>
        obtain ⟨ea, v, e1, r1⟩ := h3
        exact ⟨ea, v, e1, r1.mono eg⟩
      | ow sh' d' =>
        obtain ⟨v', e1, ow2, nd', out'⟩ := h3
        refine ⟨v', e1, ow2.step eg (fun p hp u _ hu => hu), nd', fun p hp => ⟨?_, (out' p hp).2⟩⟩
        show (if p ∈ A i then H p else G p) = none
        rw [if_neg (ap j i (fun z => e z.symm) hlj hl p hp)]
        exact (out' p hp).1
  · rw [List.length_set] at hj hk
    by_cases ej : j = i
    · rw [atA_e ej] at hp; cases hp
    · rw [atA_n ej] at hp
      by_cases ek : k = i
      · rw [atA_e ek]; exact fun z => nomatch z
      · rw [atA_n ek]; exact ap j k n hj hk p hp
  · have e : A i = A' := Own.det I.nxt.gh I.nxt.gh ow ow'
    show (if p ∈ A i then H p else G p) ≠ none
    rw [e, if_pos hp]
    exact ow'.inH p hp
end
end Oh
namespace Oh
open PySem PySem.Spec PyProof.Rows L2 Evl
section
variable {K : PySem.W.Frag} {cl : Cl} {G G' H H' : Hp} {B : Bs} {S S1 S2 S3 : List Sl} {σ : L2.St} {te ta tb : TE} {ts : TA} {tt : TT} {m n : Option D} {ms : Option (List D)} {t u : TS} {E : XK} {β γ δ : Type}
/-! ### expressions that change what is owned -/
/-- its outcome b gives its value and the slots behind -/
noncomputable def EVP (K : PySem.W.Frag) (cl : Cl) {β : Type} (te : TE) (S : List Sl) (m : Option β) (val : β → D) (post : β → List Sl) : Prop := ∀ (B : Bs) (G H : Hp) (σ : L2.St), Sig K cl B G H S σ → ∀ b, m = some b → ∀ Q : VK,
  (∀ v G' H', Sig K cl B G' H' (post b) σ → Ex G G' → Rep K cl G' v (val b) → Q v H') → te σ H Q
noncomputable def ETP (K : PySem.W.Frag) (cl : Cl) {β : Type} (tt : TT) (S : List Sl) (m : Option β) (tst : β → Bool) (post : β → List Sl) : Prop := ∀ (B : Bs) (G H : Hp) (σ : L2.St), Sig K cl B G H S σ → ∀ b, m = some b → ∀ Q : Bool → Hp → Prop,
  (∀ G' H', Sig K cl B G' H' (post b) σ → Ex G G' → Q (tst b) H') → tt σ H Q
/-! ### what is made of flat leaves alone rests on no other cell -/
noncomputable def flo : Sh → D → Bool
  | .v, d => flatB d
  | .l e, .lst ds => ds.all (flo e)
  | .j _ f, .ob _ fs => fs.all fun p => flo (f p.1) p.2
  | _, _ => false
theorem flatB_rep {v : V} {d : D} (h : flatB d = true) (r : Rep K cl G v d) : Rep K cl G' v d := by
  cases d with
  | non => cases r; exact .non
  | bl => cases r; exact .bl
  | int => cases r; exact .int
  | str => cases r; exact .str
  | _ => cases h
theorem OwnL.flo {R R' : V → D → List Addr → Prop} {p : D → Bool} (h : ∀ v d A, R v d A → p d = true → R' v d A) : ∀ {vs ds A}, OwnL R vs ds A → ds.all p = true → OwnL R' vs ds A
  | _, _, _, .nil, _ => .nil
  | _, _, _, .cons r t, e => by
    rw [List.all_cons, Bool.and_eq_true] at e
    exact .cons (h _ _ _ r e.1) (OwnL.flo h t e.2)
theorem OwnF.flo {R R' : Str → V → D → List Addr → Prop} {p : Str × D → Bool} (h : ∀ n v d A, R n v d A → p (n, d) = true → R' n v d A) : ∀ {vs ds A}, OwnF R vs ds A → ds.all p = true → OwnF R' vs ds A
  | _, _, _, .nil, _ => .nil
  | _, _, _, .cons r t, e => by
    rw [List.all_cons, Bool.and_eq_true] at e
    exact .cons (h _ _ _ _ r e.1) (OwnF.flo h t e.2)
theorem Own.flo : ∀ {sh : Sh} {v : V} {d : D} {A : List Addr}, Own K cl G H sh v d A → Oh.flo sh d = true → Own K cl G' H sh v d A
  | .v, _, _, _, ⟨h1, h2⟩, e => ⟨h1, flatB_rep e h2⟩
  | .l s, _, _, _, ⟨p, vs, ds, A', h1, h2, h3, h4, h5⟩, e => by
    subst h2
    exact ⟨p, vs, ds, A', h1, rfl, h3, h4, h5.flo (p := Oh.flo s) (fun v d A r e => Own.flo (sh := s) r e) e⟩
  | .j po f, _, _, _, ⟨p, dx, c, fs, ds, A', h1, hpo, h2, h3, h4, h5⟩, e => by
    subst h2
    exact ⟨p, dx, c, fs, ds, A', h1, hpo, rfl, h3, h4, h5.flo (p := fun p => Oh.flo (f p.1) p.2) (fun n v d A r e => Own.flo (sh := f n) r e) e⟩
  | .i p, _, _, _, h, e => by
    obtain ⟨dx, c, fs, ds, h1, h2, _⟩ := h
    subst h2
    cases e
  | .t f, _, _, _, h, e => by
    obtain ⟨p, vs, ds, h1, h2, _⟩ := h
    subst h2
    cases e
  | .d, _, d, _, h, e => by cases d <;> cases e
end
end Oh
namespace Oh
open PySem PySem.Spec PyProof.Rows L2 Evl
section
variable {X : Cx} {K : PySem.W.Frag} {cl : Cl} {S S1 S2 S3 : List Sl} {te ta tb : TE} {m n : Option D} {e e2 o : Expr}
/-! ### slices of texts -/
noncomputable def dSlS (d : D) (lo hi : Option Int) : Option D := match d with | .str z => if z.length ≤ 100000 then some (.str (cutS z lo hi)) else none | _ => none
theorem ev_slS {tl th : TO} {ml mh : Option (Option Int)} (h : EV K cl te S m S1) (h1 : EO tl S1 ml S2 K cl) (h2 : EO th S2 mh S3 K cl) : EV K cl (tSl rSlS te tl th) S (m.bind fun d => ml.bind fun lo => mh.bind fun hi => dSlS d lo hi) S3 := fun B G H σ I z e Q q => by
  obtain ⟨d, ed, e⟩ := bind_some e
  obtain ⟨lo, el, e⟩ := bind_some e
  obtain ⟨hi, eh, e⟩ := bind_some e
  refine h B G H σ I d ed _ fun v G1 H1 I1 g1 h1' rv => ?_
  refine h1 B G1 H1 σ I1 lo el _ fun G2 H2 I2 g2 h2' => ?_
  refine h2 B G2 H2 σ I2 hi eh _ fun G3 H3 I3 g3 h3' => ?_
  cases rv with
  | @str x =>
    have e : (if x.length ≤ 100000 then some (D.str (cutS x lo hi)) else none) = some z := e
    split at e
    · rename_i hl
      cases e
      exact ⟨_, rfl, sz_of hl, q _ G3 H3 I3 ((g1.trans g2).trans g3) ((h1'.trans h2').trans h3') .str⟩
    · cases e
  | _ => cases e
/-! ### one sign in a text -/
noncomputable def sgD : D → Option Nat | .str z => (match z.cps.toList with | [c] => some c | _ => none) | _ => none
noncomputable def dInT (x y : D) : Option D := (sgD x).bind fun c => match y with | .str z => some (.bl (decide (c ∈ z.cps.toList))) | _ => none
noncomputable def dNinT (x y : D) : Option D := (sgD x).bind fun c => match y with | .str z => some (.bl (!decide (c ∈ z.cps.toList))) | _ => none
noncomputable def rInT : R2 := fun x y H Q => ∃ (c : Nat) (z : Str), x = .str ⟨#[c]⟩ ∧ y = .str z ∧ Q (.bl (decide (c ∈ z.cps.toList))) H
noncomputable def rNinT : R2 := fun x y H Q => ∃ (c : Nat) (z : Str), x = .str ⟨#[c]⟩ ∧ y = .str z ∧ Q (.bl (!decide (c ∈ z.cps.toList))) H
theorem op_inT : OpR X (compareOp .In) rInT := op_in_sign
theorem op_ninT : OpR X (compareOp .NotIn) rNinT := op_notIn_sign
theorem sg_str {x : D} {c : Nat} (h : sgD x = some c) : x = .str ⟨#[c]⟩ := by
  cases x with
  | str z =>
    have h : (match z.cps.toList with | [c] => some c | _ => none) = some c := h
    split at h
    · rename_i c' e
      cases h
      obtain ⟨⟨l⟩⟩ := z
      have e : l = [c] := e
      rw [e]
    · cases h
  | _ => cases h
theorem o_inT : Op2 K cl rInT dInT := by
  intro G H x y d e z gh rx ry h Q q
  obtain ⟨c, ec, h⟩ := bind_some h
  have ed := sg_str ec
  subst ed
  cases rx
  cases ry <;> (try (cases h; done))
  cases h
  exact ⟨c, _, rfl, rfl, q _ .bl⟩
theorem o_ninT : Op2 K cl rNinT dNinT := by
  intro G H x y d e z gh rx ry h Q q
  obtain ⟨c, ec, h⟩ := bind_some h
  have ed := sg_str ec
  subst ed
  cases rx
  cases ry <;> (try (cases h; done))
  cases h
  exact ⟨c, _, rfl, rfl, q _ .bl⟩
/-! ### a text so many times -/
noncomputable def rMulT : R2 := fun x y H Q => ∃ (z : Str) (k : Int), x = .str z ∧ y = .int k ∧ PySem.MulOk z k ∧ Q (.str (Txt.mul z k)) H
theorem op_mulT : OpR X (binaryOp .Mult) rMulT := by
  intro pins s σ H x y v u Q I rx ry h
  obtain ⟨z, k, rfl, rfl, hk, q⟩ := h
  obtain ⟨t, rfl⟩ := rx
  obtain ⟨t', rfl⟩ := ry
  exact PySem.SB.mul hk fun t2 k2 => ⟨.str (Txt.mul z k), H, I.tok _, ⟨_, rfl⟩, q⟩
noncomputable def dMulT : D → D → Option D
  | .str z, .int k => if 0 ≤ k ∧ k ≤ 1000 ∧ z.length ≤ 1000 then some (.str (Txt.mul z k)) else none
  | _, _ => none
theorem o_mulT : Op2 K cl rMulT dMulT := by
  intro G H x y d e z gh rx ry h Q q
  cases rx <;> cases ry <;> (try (cases h; done))
  rename_i a k
  have h : (if 0 ≤ k ∧ k ≤ 1000 ∧ a.length ≤ 1000 then some (D.str (Txt.mul a k)) else none) = some z := h
  split at h
  · rename_i hk
    cases h
    refine ⟨a, k, rfl, rfl, ⟨?_, fun h1 h2 => ?_, fun h1 h2 => ?_⟩, q _ .str⟩
    · rw [Bool.or_eq_false_iff]
      exact ⟨decide_eq_false (by omega), decide_eq_false (by omega)⟩
    · have h3 : (a.length : Int) * k ≤ 1000 * 1000 := Int.mul_le_mul (by omega) (by omega) (by omega) (by decide)
      have h4 : (a.length : Int) ≤ (2 ^ 63 - 1) / k := Int.le_ediv_of_mul_le (by omega) (by omega)
      omega
    · have h3 : a.length * k.toNat ≤ 1000 * 1000 := Nat.mul_le_mul hk.2.2 (by omega)
      unfold Builtin.Str.tooLong
      rw [sizeLine_eq]
      exact decide_eq_false (by omega)
  · cases h
/-! ### the signs of a text -/
noncomputable def dChars (d : D) : Option (List D) := match d with | .str z => some (z.cps.toList.map fun c => .str ⟨#[c]⟩) | _ => none
theorem iv_str (h : EV K cl te S m S1) : IV K cl (iStr te) S (m.bind dChars) S1 := fun B G H σ I xs e R r => by
  obtain ⟨d, ed, e⟩ := bind_some e
  refine h B G H σ I d ed _ fun v G' H' I' g1 h1 rv => ?_
  cases rv with
  | @str x =>
    cases e
    have hl : (x.cps.toList.map fun c => D.str ⟨#[c]⟩).length = x.cps.size := by rw [List.length_map, Array.length_toList]
    refine ⟨x, rfl, r _ G' H' I' g1 h1 ⟨fun G2 H2 eg gh => by rw [hl]; exact Nat.le_refl _, fun i G2 H2 hi eg gh => by rw [hl] at hi; exact hi, fun i y G2 H2 v H3 hx eg gh hy => ?_⟩⟩
    obtain ⟨e1, c, hc, rfl⟩ := hy
    subst e1
    rw [List.getElem?_map, Array.getElem?_toList, hc] at hx
    cases hx
    exact ⟨G2, Nxt.refl gh, .str⟩
  | _ => cases e
/-! ### split, join -/
noncomputable abbrev rSplit : V → List V → Hp → VK → Prop := fun x xs H Q => ∃ a b, x = .str a ∧ xs = [.str b] ∧ (b.length == 0) = false ∧ a.length + 2 ≤ sizeLine ∧ rNewStrs (Txt.split a b) H Q
noncomputable def dSplit (x y : D) : Option D := match x, y with
  | .str a, .str b => if (b.length == 0) = false ∧ a.length ≤ 90000 then some (.lst ((Txt.split a b).map .str)) else none
  | _, _ => none
theorem strs_reps {G : Hp} : ∀ ys : List Str, Reps K cl G (ys.map V.str) (ys.map D.str)
  | [] => .nil
  | _ :: ys => .cons .str (strs_reps ys)
theorem evn_split (h : EV K cl ta S m S1) (h2 : EV K cl tb S1 n S2) : EVN K cl (tM1 rSplit ta tb) S (m.bind fun x => n.bind fun y => dSplit x y) S2 := fun B G H σ I z e Q q => by
  obtain ⟨a, ea, e⟩ := bind_some e
  obtain ⟨b, eb, e⟩ := bind_some e
  refine h B G H σ I a ea _ fun x G1 H1 I1 g1 h1 rx => ?_
  cases rx with
  | @str x =>
    refine ⟨⟨x, rfl⟩, h2 B G1 H1 σ I1 b eb _ fun y G2 H2 I2 g2 h2' ry => ?_⟩
    cases ry with
    | @str y =>
      have e : (if (y.length == 0) = false ∧ x.length ≤ 90000 then some (D.lst ((Txt.split x y).map .str)) else none) = some z := e
      split at e
      · rename_i hc
        cases e
        exact ⟨x, y, rfl, rfl, hc.1, sz_of (by omega), fun p hp => q p _ _ G2 H2 I2 (g1.trans g2) (h1.trans h2') rfl hp (strs_reps _)⟩
      · cases e
    | _ => cases e
  | _ => cases e
theorem splitK (he : PE X e ta) (he2 : PE X e2 tb) {apos pos : Pos} (hs : starEach [e2] X.env = [(false, eval e2 X.env)] := by rfl) (hbase : attributeBase e "split" X.env (eval e X.env) = eval e X.env := by rfl) (hline : (apos.endLine == pos.line) = true := by rfl) :
    PE X (.Call (.Attribute e "split" apos) [e2] [] pos) (tM1 rSplit ta tb) := pe_split he he2 hs hbase hline
end
end Oh
namespace Oh
open PySem PySem.Spec PyProof.Rows L2 Evl
section
variable {X : Cx} {K : PySem.W.Frag} {cl : Cl} {G G' H H' : Hp} {B : Bs} {σ : L2.St} {S S1 S2 S3 : List Sl} {te ta tb : TE} {tc : TT} {m n : Option D} {mc : Option Bool}
theorem Sig.thruJ (I : Sig K cl B G H S σ) {i : Nat} {sh : Sh} {d : D} (h : S[i]? = some (.ow sh d)) :
    ∃ v A, σ[i]? = some (some v) ∧ Own K cl G H sh v d A ∧ A.Nodup ∧ (∀ p ∈ A, G p = none ∧ B.H p = none) ∧
      ∀ (G' H' : Hp), Nxt G (cutA H A) G' H' → Sig K cl B G' H' (S.set i .jk) σ := by
  obtain ⟨A, hs, ap⟩ := I.slots
  obtain ⟨o, h1, v, rfl, ow, nd, out⟩ := hs i _ h
  have hl : i < S.length := (List.getElem?_eq_some_iff.mp h).1
  refine ⟨v, A i, h1, ow, nd, out, fun G' H' n => ?_⟩
  have keep : ∀ a u, a ∉ A i → H a = some u → NT u → H' a = some u := fun a u ha e nt => n.h a u (by rw [cutA_out ha]; exact e)
  have back : ∀ p, G' p ≠ none → G p ≠ none ∨ H p = none ∨ p ∈ A i := fun p hp => by
    rcases n.fr p hp with h | h
    · exact .inl h
    · by_cases z : p ∈ A i
      · exact .inr (.inr z)
      · rw [cutA_out z] at h; exact .inr (.inl h)
  refine ⟨⟨I.nxt.g.trans n.g, ⟨fun a u _ e => ?_, fun a ps e => ?_⟩, n.gh, fun p hp => ?_⟩, by rw [List.length_set]; exact I.len, fun a ha => ?_, atA A i [], fun j s hj => ?_, fun j k ne hj hk p hp => ?_⟩
  · have e1 := I.nxt.h a u e
    exact keep a u (fun z => by rw [(out a z).2] at e; cases e) e1 ‹_›
  · obtain ⟨ps1, e1, k1⟩ := I.nxt.h.b a ps e
    obtain ⟨ps2, e2, k2⟩ := n.h.b a ps1 (by rw [cutA_out fun z => by rw [(out a z).2] at e; cases e]; exact e1)
    exact ⟨ps2, e2, fun z => k2 (k1 z)⟩
  · rcases back p hp with h | h | h
    · exact I.nxt.fr p h
    · exact .inr (I.nxt.h.back h)
    · exact .inr (out p h).2
  · obtain ⟨⟨ps, e, ok⟩, hg⟩ := I.tab a ha
    have na := ow.noT ⟨ps, e, ok⟩
    obtain ⟨ps2, e2, k2⟩ := n.h.b a ps (by rw [cutA_out na]; exact e)
    refine ⟨⟨ps2, e2, k2 ok⟩, ?_⟩
    cases q : G' a with
    | none => rfl
    | some u =>
      rcases back a (by rw [q]; simp) with h | h | h
      · exact absurd hg h
      · rw [e] at h; cases h
      · exact absurd h na
  · by_cases e : i = j
    · subst e
      rw [List.getElem?_set_self hl] at hj
      cases hj
      refine ⟨_, h1, ?_⟩
      exact atA_e rfl
    · rw [List.getElem?_set_ne e] at hj
      have hlj : j < S.length := (List.getElem?_eq_some_iff.mp hj).1
      obtain ⟨o, h2, h3⟩ := hs j s hj
      refine ⟨o, h2, ?_⟩
      rw [atA_n (fun z => e z.symm)]
      cases s with
      | jk => exact h3
      | vl d' =>
        obtain ⟨ea, v, e1, r⟩ := h3
        exact ⟨ea, v, e1, r.mono n.g⟩
      | ow sh2 d2 =>
        obtain ⟨v2, e1, ow2, nd2, out2⟩ := h3
        refine ⟨v2, e1, ow2.step n.g (fun p hp u nt hu => keep p u (ap j i (fun z => e z.symm) hlj hl p hp) hu nt), nd2, fun p hp => ⟨?_, (out2 p hp).2⟩⟩
        cases q : G' p with
        | none => rfl
        | some u =>
          rcases back p (by rw [q]; simp) with h | h | h
          · exact absurd (out2 p hp).1 h
          · exact absurd h (ow2.inH p hp)
          · exact absurd h (ap j i (fun z => e z.symm) hlj hl p hp)
  · rw [List.length_set] at hj hk
    have inH : ∀ j, j < S.length → ∀ p ∈ A j, H p ≠ none := fun j hj p hp => by
      obtain ⟨o, h1, h2⟩ := hs j S[j] (List.getElem?_eq_getElem hj)
      generalize S[j] = s at h2
      cases s with
      | jk => rw [h2] at hp; cases hp
      | vl d' => rw [h2.1] at hp; cases hp
      | ow sh' d' => obtain ⟨v', _, ow', _⟩ := h2; exact ow'.inH p hp
    by_cases ej : j = i
    · subst ej
      rw [atA_e rfl] at hp
      cases hp
    · rw [atA_n ej] at hp
      by_cases ek : k = i
      · subst ek
        rw [atA_e rfl]
        exact fun y => nomatch y
      · rw [atA_n ek]; exact ap j k ne hj hk p hp
end
end Oh
namespace Oh
open PySem PySem.Spec PyProof.Rows L2 Evl PyProof
section zipThree
end zipThree
section
variable {X : Cx} {K : PySem.W.Frag} {cl : Cl} {S S1 S2 S3 : List Sl} {ta tb tc : TE} {m n k : Option D}
end
end Oh
namespace Oh
open PySem PySem.Spec PyProof.Rows L2 Evl
section
variable {X : Cx} {K : PySem.W.Frag} {cl : Cl} {G G' H H' : Hp} {B : Bs} {σ : L2.St} {S S1 S2 S3 : List Sl} {te ta tb : TE} {tt : TT} {m n : Option D} {β γ : Type}
/-! ### self.f += e, an int -/
noncomputable def dAddI : D → D → Option D | .int i, .int j => some (.int (i + j)) | _, _ => none
theorem ev_here {v : V} {d : D} (r : ∀ G, Rep K cl G v d) : EV K cl (fun σ H Q => Q v H) S (some d) S := fun B G H σ I d' e Q q => by
  cases e
  exact q v G H I (Ex.refl _) (Ex2.refl _) (r G)
theorem sv_fldAugJ {i c : Nat} {po : Option Addr} {fs : Str → Sh} {f : Str} {as : List Str} {x : D} (T : ClsF K (cl.c c) as) (hf : f ∈ as) (hv : fs f = .v) (h0 : S[i]? = some (.ow (.j po fs) x)) (h : EV K cl te S n S) :
    SV K cl (sFldAug K (tVar i) te rAdd f) S ((dFld c f x).bind fun a => n.bind fun y => (dAddI a y).bind fun z => dStF c f x z) (fun b => S.set i (.ow (.j po fs) b)) := fun B G H σ I d e Dn q => by
  obtain ⟨a, ea, e⟩ := bind_some e
  obtain ⟨y, ey, e⟩ := bind_some e
  obtain ⟨z, ez, e⟩ := bind_some e
  obtain ⟨k, j, rfl, rfl, rfl⟩ : ∃ k j : Int, a = .int k ∧ y = .int j ∧ z = .int (k + j) := by
    cases a <;> cases y <;> first | (cases ez; exact ⟨_, _, rfl, rfl, rfl⟩) | cases ez
  obtain ⟨v1, A1, hσ, ⟨p, dx, c', vs, ds, A', rfl, _, rfl, hp, rfl, ow⟩, _, _, _⟩ := I.thru h0
  have e2 : (if c' = c then ds.lookup f else none) = some (.int k) := ea
  by_cases hc : c' = c
  · rw [if_pos hc] at e2
    obtain ⟨A0, Ar, pm, lk, _⟩ := ow.spl f
    obtain ⟨v, hl, r⟩ := lk _ e2
    obtain ⟨_, r⟩ := OwnF.freps hv r
    cases r
    refine ⟨.ref p, hσ, p, _, dx, vs, .int k, rfl, hp, by rw [hc]; exact T.c, by rw [hc]; exact T.n f hf, hl, ?_⟩
    refine h B G H σ I _ ey _ fun v2 G1 H1 I1 g1 h1 r2 => ?_
    cases r2
    refine ⟨k, j, rfl, rfl, ?_⟩
    obtain ⟨x1, hx, a, C, dx1, fs1, rfl, ha, _, _, hlen, qq⟩ := sv_fldJ T hf hv h0 (ev_here (v := .int (k + j)) (d := .int (k + j)) fun _ => .int) B G1 H1 σ I1 d e Dn q
    rw [hσ] at hx
    cases hx
    obtain ⟨v3, A3, hσ3, ⟨p3, dx3, c3, vs3, ds3, A3', rfl, _, ed3, hp3, rfl, _⟩, _, _, _⟩ := I1.thru h0
    rw [hσ] at hσ3
    cases hσ3
    cases ed3
    rw [hp3] at ha
    cases ha
    exact ⟨_, _, hp3, hlen, qq⟩
  · rw [if_neg hc] at e2; cases e2
end
end Oh
namespace Oh
open PySem PySem.Spec PyProof.Rows L2 Evl
section
variable {X : Cx} {K : PySem.W.Frag} {cl : Cl} {G G' H H' : Hp} {B : Bs} {σ : L2.St} {S S1 S2 S3 : List Sl} {te tk ta tb : TE} {m n : Option D} {t u : TS}
theorem OwnDs.len : ∀ {vs ds A}, OwnDs G H vs ds A → vs.length = ds.length
  | _, _, _, .nil => rfl
  | _, _, _, .cons _ r => congrArg (· + 1) r.len
end
section
variable {X : Cx} {K : PySem.W.Frag}
end
section
variable {K : PySem.W.Frag} {cl : Cl} {S : List Sl}
/-- a, b, c = [], [], [] -/
theorem sv_three3 {i j k : Nat} (hi : i < S.length) (hj : j < S.length) (hk : k < S.length) (nij : i ≠ j) (nik : i ≠ k) (njk : j ≠ k) :
    SV K cl (tPar3 i j k (tCons (tLst tNil) (tCons (tLst tNil) (tCons (tLst tNil) tNil)))) S (some ()) (fun _ => ((S.set i (.ow (.l .v) (.lst []))).set j (.ow (.l .v) (.lst []))).set k (.ow (.l .v) (.lst []))) := fun B G H σ I b e Dn q => by
  cases e
  have z0 : ([] : List V).length ≤ sizeLine := Nat.zero_le _
  refine ⟨z0, fun p1 h1 => ⟨z0, fun p2 h2 => ⟨z0, fun p3 h3 => ?_⟩⟩⟩
  have new : ∀ {H0 : Hp} {S0 : List Sl} {σ0 : L2.St} (I0 : Sig K cl B G H0 S0 σ0) {p0 : Addr} (h0 : H0 p0 = none), Sig K cl B G (upd H0 p0 (.lst [])) (S0 ++ [.ow (.l .v) (.lst [])]) (σ0 ++ [some (.ref p0)]) := fun {H0 S0 σ0} I0 {p0} h0 =>
    I0.push (Nxt.lay (o := .lst []) I0.nxt.gh h0) (Own.mkFlat upd_same .nil) (by simp) fun p' hp' => by rw [List.mem_singleton.mp hp']; exact ⟨h0, fresh_back I0.nxt.gh h0⟩
  have I4 := new (new (new I h1) h2) h3
  have L : σ.length = S.length := I.len
  have I5 := I4.take k
  rw [List.set_append_left _ _ (by rw [List.length_append]; omega), List.set_append_left _ _ hk, List.set_append_left _ _ (by rw [List.length_append, L]; omega), List.set_append_left _ _ (by rw [L]; exact hk)] at I5
  have I6 := I5.take j
  rw [List.set_append_left _ _ (by rw [List.length_set]; exact hj), List.set_append_left _ _ (by rw [List.length_set, L]; exact hj)] at I6
  have I7 := I6.take i
  refine ⟨.ref p1, .ref p2, .ref p3, rfl, q _ G _ ?_⟩
  have e1 : ∀ {α : Type} (l : List α) (a b c : α), ((l.set k a).set j b).set i c = ((l.set i c).set j b).set k a := fun l a b c => by
    rw [List.set_comm _ _ njk.symm, List.set_comm (i := k) (j := i) _ _ nik.symm, List.set_comm (i := j) (j := i) _ _ nij.symm]
  rw [e1, e1] at I7
  exact I7
end
end Oh
namespace Oh
open PySem PySem.Spec PyProof.Rows L2 Evl
/-! ### what may let an exception out -/
/-- an exception as data: its class's number, and what its field `at` holds -/
inductive Xd where
  | pl (k : Nat)
  | fl (k : Nat) (n : Int)
  deriving DecidableEq
noncomputable abbrev Rs (β : Type) := Option (Except Xd β)
noncomputable def okR {β : Type} (m : Option β) : Rs β := m.map .ok
noncomputable def thenR {β γ : Type} (m : Rs β) (k : β → Rs γ) : Rs γ := m.bind fun r => match r with | .ok b => k b | .error x => some (.error x)
section
variable {K : PySem.W.Frag} {cl : Cl} {G G' H H' H0 : Hp} {B : Bs} {S S1 S2 S3 : List Sl} {σ : L2.St} {te ta tb : TE} {ts : TA} {tt : TT} {m n : Option D} {ms : Option (List D)} {t u : TS} {E : XK} {β γ δ : Type}
/-- the way out -/
noncomputable def XW (cl : Cl) (B : Bs) (E : XK) : Xd → Prop
  | .pl k => ∀ G' H', Nxt B.G B.H G' H' → E (.ref (cl.c k)) none H'
  | .fl k n => ∀ G' H' d, Nxt B.G B.H G' H' → H' d = none → E (.ref (cl.c k)) (some d) (upd H' d (.xd [(("at" : Str), .int n)]))
noncomputable def SVE (K : PySem.W.Frag) (cl : Cl) (H0 : Hp) (E : XK) {β : Type} (ts : TS) (S : List Sl) (m : Rs β) (post : β → List Sl) : Prop := ∀ (B : Bs) (G H : Hp) (σ : L2.St), Sig K cl B G H S σ → B.H = H0 → ∀ r, m = some r → ∀ Dn : Ends,
  (match r with | .ok b => ∀ σ' G' H', Sig K cl B G' H' (post b) σ' → Dn.nx σ' H' | .error x => XW cl B E x) → ts Dn σ H
noncomputable def EVE (K : PySem.W.Frag) (cl : Cl) (H0 : Hp) (E : XK) {β : Type} (te : TE) (S : List Sl) (m : Rs β) (val : β → D) (post : β → List Sl) : Prop := ∀ (B : Bs) (G H : Hp) (σ : L2.St), Sig K cl B G H S σ → B.H = H0 → ∀ r, m = some r → ∀ Q : VK,
  (match r with | .ok b => ∀ v G' H', Sig K cl B G' H' (post b) σ → Ex G G' → Rep K cl G' v (val b) → Q v H' | .error x => XW cl B E x) → te σ H Q
noncomputable def ETE (K : PySem.W.Frag) (cl : Cl) (H0 : Hp) (E : XK) {β : Type} (tt : TT) (S : List Sl) (m : Rs β) (tst : β → Bool) (post : β → List Sl) : Prop := ∀ (B : Bs) (G H : Hp) (σ : L2.St), Sig K cl B G H S σ → B.H = H0 → ∀ r, m = some r → ∀ Q : Bool → Hp → Prop,
  (match r with | .ok b => ∀ G' H', Sig K cl B G' H' (post b) σ → Ex G G' → Q (tst b) H' | .error x => XW cl B E x) → tt σ H Q
theorem okR_some {m : Option β} {r : Except Xd β} (h : okR m = some r) : ∃ b, m = some b ∧ r = .ok b := by
  obtain ⟨b, e, rfl⟩ := Option.map_eq_some_iff.mp h
  exact ⟨b, e, rfl⟩
theorem SV.e {mb : Option β} {post : β → List Sl} (h : SV K cl t S mb post) : SVE K cl H0 E t S (okR mb) post := fun B G H σ I _ r e Dn q => by
  obtain ⟨b, eb, rfl⟩ := okR_some e
  exact h B G H σ I b eb Dn q
theorem EVP.e {mb : Option β} {val : β → D} {post : β → List Sl} (h : EVP K cl te S mb val post) : EVE K cl H0 E te S (okR mb) val post := fun B G H σ I _ r e Q q => by
  obtain ⟨b, eb, rfl⟩ := okR_some e
  exact h B G H σ I b eb Q q
theorem ETP.e {mb : Option β} {tst : β → Bool} {post : β → List Sl} (h : ETP K cl tt S mb tst post) : ETE K cl H0 E tt S (okR mb) tst post := fun B G H σ I _ r e Q q => by
  obtain ⟨b, eb, rfl⟩ := okR_some e
  exact h B G H σ I b eb Q q
theorem thenR_some {m : Rs β} {k : β → Rs γ} {r : Except Xd γ} (h : thenR m k = some r) : (∃ b, m = some (.ok b) ∧ k b = some r) ∨ ∃ x, m = some (.error x) ∧ r = .error x := by
  obtain ⟨r0, e0, h⟩ := bind_some h
  cases r0 with
  | ok b => exact .inl ⟨b, e0, h⟩
  | error x => cases h; exact .inr ⟨x, e0, rfl⟩
theorem sve_cons {mb : Rs β} {post : β → List Sl} {k : β → Rs γ} {post2 : γ → List Sl} (h : SVE K cl H0 E t S mb post) (r : ∀ b, SVE K cl H0 E u (post b) (k b) post2) : SVE K cl H0 E (tSeq t u) S (thenR mb k) post2 := fun B G H σ I hB rr e Dn q => by
  rcases thenR_some e with ⟨b, eb, e⟩ | ⟨x, ex, rfl⟩
  · exact h B G H σ I hB _ eb { Dn with nx := u Dn } fun σ' G' H' I' => r b B G' H' σ' I' hB rr e Dn q
  · exact h B G H σ I hB _ ex _ q
theorem sve_if {mc : Option Bool} {ma mb : Rs β} {post : β → List Sl} (hc : ET K cl tt S mc S1) (ha : SVE K cl H0 E t S1 ma post) (hb : SVE K cl H0 E u S1 mb post) : SVE K cl H0 E (tIfS tt t u) S (mc.bind fun c => if c = true then ma else mb) post := fun B G H σ I hB r e Dn q => by
  obtain ⟨c, ec, e⟩ := bind_some e
  refine hc B G H σ I c ec _ fun G1 H1 I1 _ _ => ?_
  cases c with
  | true => exact ha B G1 H1 σ I1 hB r e Dn q
  | false => exact hb B G1 H1 σ I1 hB r e Dn q
/-! steps over expressions that may let one out -/
theorem sve_drop {mb : Rs β} {val : β → D} {post : β → List Sl} (h : EVE K cl H0 E te S mb val post) : SVE K cl H0 E (tDrop te) S mb post := fun B G H σ I hB r e Dn q => h B G H σ I hB r e _ (by
  cases r with
  | ok b => exact fun v G1 H1 I1 _ _ => q σ G1 H1 I1
  | error x => exact q)
theorem sve_app {i : Nat} {d : D} {mb : Rs β} {val : β → D} {post : β → List Sl} (h0 : S[i]? = some (.ow (.l .v) d)) (h1 : ∀ b, (post b)[i]? = some (.ow (.l .v) d)) (h : EVE K cl H0 E te S mb val post) :
    SVE K cl H0 E (tDrop (tBM K "list" rAppend (tVar i) (tCons te tNil))) S (thenR mb fun b => okR ((dApp d (val b)).map fun d' => (d', b))) (fun r => (post r.2).set i (.ow (.l .v) r.1)) := fun B G H σ I hB z e Dn q => by
  obtain ⟨p, vs, xs, hσ, rfl, hp, gp, bp, rs⟩ := I.ow h0
  refine ⟨.ref p, hσ, Or.inl ⟨rfl, vs, sq_of hp⟩, ?_⟩
  rcases thenR_some e with ⟨b, eb, e⟩ | ⟨x, ex, rfl⟩
  · obtain ⟨w, ew, rfl⟩ := okR_some e
    obtain ⟨d', ed, rfl⟩ := Option.map_eq_some_iff.mp ew
    refine h B G H σ I hB _ eb _ fun v G' H' I' g1 r => ?_
    obtain ⟨p2, vs2, xs2, hσ2, ed2, hp2, gp2, bp2, rs2⟩ := I'.ow (h1 b)
    rw [hσ] at hσ2
    cases hσ2
    cases ed2
    unfold dApp at ed
    simp only at ed
    split at ed
    · rename_i hl
      cases ed
      refine ⟨p, vs2, v, rfl, rfl, hp2, sz_lt (by rw [rs2.length]; exact hl), q σ G' _ ?_⟩
      exact I'.mut (h1 b) hσ (rs2.append (.cons r .nil))
    · cases ed
  · exact h B G H σ I hB _ ex _ q
end
end Oh
namespace Oh
open PySem PySem.Spec PyProof.Rows L2 Evl
section
variable {K : PySem.W.Frag} {cl : Cl} {G G' H H' H0 : Hp} {B B' : Bs} {S S1 S2 S3 : List Sl} {σ : L2.St} {te ta tb : TE} {ts : TA} {tt : TT} {m n : Option D} {ms : Option (List D)} {t u : TS} {E : XK} {β γ δ : Type}
theorem XW.of (h : ∀ G' H', Nxt B'.G B'.H G' H' → Nxt B.G B.H G' H') : ∀ {x : Xd}, XW cl B E x → XW cl B' E x
  | .pl _, w => fun G' H' n => w G' H' (h G' H' n)
  | .fl _ _, w => fun G' H' d n hd => w G' H' d (h G' H' n) hd
/-! ### a method, or a def, that changes its first argument and may let an exception out -/
noncomputable def spOE (K : PySem.W.Frag) (cl : Cl) (fs : Str → Sh) (f : D → List D → Rs (D × D)) : Sp := fun vs H Q E => ∃ G x vs' d ds A r, vs = x :: vs' ∧ Ex G H ∧ (∀ a ∈ cl.t, GxR.TabG H a ∧ G a = none) ∧ Own K cl G H (.j none fs) x d A ∧ A.Nodup ∧ (∀ p ∈ A, G p = none) ∧
  Reps K cl G vs' ds ∧ f d ds = some r ∧ (match r with
    | .ok r => ∀ v G' H' A', Nxt G (cutA H A) G' H' → Own K cl G' H' (.j none fs) x r.2 A' → A'.Nodup → (∀ p ∈ A', G' p = none ∧ (p ∈ A ∨ H p = none)) → Rep K cl G' v r.1 → Q v H'
    | .error x => XW cl ⟨G, cutA H A⟩ E x)
structure ConOE (P : Program) (w : World) (K : PySem.W.Frag) (cl : Cl) (mg : Str → Option Value) (base : Heap) (k : Nat) (c : Nat) (mn : Str) (fs : Str → Sh) (f : D → List D → Rs (D × D)) (fa : Addr) (fd : FuncData) (ps : List Str) : Prop where
  ok : FnOk P w K mg base (L2N.CX P w) k fa fd ps (spOE K cl fs f)
  mt : Meth K (cl.c c) mn fa
  bd : Binds K fd ps []
structure ConFE (P : Program) (w : World) (K : PySem.W.Frag) (cl : Cl) (mg : Str → Option Value) (base : Heap) (k : Nat) (x : Str) (fs : Str → Sh) (f : D → List D → Rs (D × D)) (fa : Addr) (fd : FuncData) (ps : List Str) : Prop where
  ok : FnOk P w K mg base (L2N.CX P w) k fa fd ps (spOE K cl fs f)
  mg : mg x = some (.ref fa)
  kp : PySem.W.keepIn K (.ref fa) = true
  bd : Binds K fd ps []
/-- a method that changes nothing and may let one out -/
noncomputable def spE (K : PySem.W.Frag) (cl : Cl) (f : List D → Rs D) : Sp := fun vs H Q E => ∃ G ds r, Ex G H ∧ (∀ a ∈ cl.t, GxR.TabG H a ∧ G a = none) ∧ Reps K cl G vs ds ∧ f ds = some r ∧ (match r with
    | .ok d => ∀ v G' H', Nxt G H G' H' → Rep K cl G' v d → Q v H'
    | .error x => XW cl ⟨G, H⟩ E x)
structure ConE (P : Program) (w : World) (K : PySem.W.Frag) (cl : Cl) (mg : Str → Option Value) (base : Heap) (k : Nat) (x : Str) (f : List D → Rs D) (fa : Addr) (fd : FuncData) (ps : List Str) : Prop where
  ok : FnOk P w K mg base (L2N.CX P w) k fa fd ps (spE K cl f)
  mg : mg x = some (.ref fa)
  kp : PySem.W.keepIn K (.ref fa) = true
  bd : Binds K fd ps []
theorem passE {X : Cx} {E : XK} (tk : L2N.Takes X (fun cls d _ H => E cls d H)) : Passes (L2N.CX X.prog X.w) X E := fun pins σ H s e s' I c => L2N.passAt tk σ pins H s e s' I c
theorem eve_meth {i c : Nat} {mn : Str} {po : Option Addr} {fs : Str → Sh} {d : D} {f : D → List D → Rs (D × D)} (h0 : S[i]? = some (.ow (.j po fs) d)) (h1 : S1[i]? = some (.ow (.j po fs) d)) (ha : EA K cl ts S ms S1) :
    EVE K cl H0 E (tMeth (cl.c c) mn (spOE K cl fs f) [] E (tVar i) ts) S ((dMt c mn d).bind fun x => ms.bind fun xs => f x xs) (·.1) (fun r => S1.set i (.ow (.j po fs) r.2)) := fun B G H σ I hB r e Q q => by
  obtain ⟨x, ex, e⟩ := bind_some e
  obtain ⟨xs, exs, e3⟩ := bind_some e
  obtain ⟨v, A, hσ, ow, _, _, _⟩ := I.thru h0
  obtain ⟨p, dx, c', vs, ds, A', rfl, _, rfl, hp, _, of⟩ := ow
  have e2 : (if c' = c ∧ ds.lookup mn = none then some (D.ob c' ds) else none) = some x := ex
  by_cases hc : c' = c ∧ ds.lookup mn = none
  · rw [if_pos hc] at e2
    cases e2
    obtain ⟨rfl, hn⟩ := hc
    refine ⟨.ref p, hσ, p, dx, vs, rfl, hp, of.none hn, ?_⟩
    refine ha B G H σ I xs exs _ fun us G1 H1 I1 g1 h1' rs => ?_
    obtain ⟨v1, A1, hσ1, ow1, nd1, out1, cls⟩ := I1.thru h1
    rw [hσ] at hσ1; cases hσ1
    refine ⟨G1, .ref p, us, _, xs, A1, r, by rw [List.append_nil], I1.nxt.gh, I1.tab, ow1.none_, nd1, fun a ha => (out1 a ha).1, rs, e3, ?_⟩
    cases r with
    | ok r => exact fun w G' H' A2 nx o2 nd2 new rv => q w G' H' (cls G' H' _ _ A2 nx (ow1.some_ o2) nd2 new) (g1.trans nx.g) rv
    | error x =>
      obtain ⟨v3, A3, hσ3, ow3, _, _, clsJ⟩ := I1.thruJ h1
      rw [hσ] at hσ3; cases hσ3
      have eA : A1 = A3 := Own.det I1.nxt.gh I1.nxt.gh ow1 ow3
      subst eA
      exact XW.of (fun G' H' nx => (clsJ G' H' nx).nxt) q
  · rw [if_neg hc] at e2; cases e2
theorem eve_fun {i : Nat} {po : Option Addr} {fs : Str → Sh} {d : D} {f : D → List D → Rs (D × D)} (h0 : S[i]? = some (.ow (.j po fs) d)) (h1 : S1[i]? = some (.ow (.j po fs) d)) (ha : EA K cl ts S ms S1) :
    EVE K cl H0 E (tCall (spOE K cl fs f) [] E (tCons (tVar i) ts)) S (ms.bind fun xs => f d xs) (·.1) (fun r => S1.set i (.ow (.j po fs) r.2)) := fun B G H σ I hB r e Q q => by
  obtain ⟨xs, exs, e3⟩ := bind_some e
  obtain ⟨v, A, hσ, ow, _, _, _⟩ := I.thru h0
  refine ⟨v, hσ, ?_⟩
  refine ha B G H σ I xs exs _ fun us G1 H1 I1 g1 h1' rs => ?_
  obtain ⟨v1, A1, hσ1, ow1, nd1, out1, cls⟩ := I1.thru h1
  rw [hσ] at hσ1; cases hσ1
  refine ⟨G1, v, us, _, xs, A1, r, by rw [List.append_nil], I1.nxt.gh, I1.tab, ow1.none_, nd1, fun a ha => (out1 a ha).1, rs, e3, ?_⟩
  cases r with
  | ok r => exact fun w G' H' A2 nx o2 nd2 new rv => q w G' H' (cls G' H' _ _ A2 nx (ow1.some_ o2) nd2 new) (g1.trans nx.g) rv
  | error x =>
    obtain ⟨v3, A3, hσ3, ow3, _, _, clsJ⟩ := I1.thruJ h1
    rw [hσ] at hσ3; cases hσ3
    have eA : A1 = A3 := Own.det I1.nxt.gh I1.nxt.gh ow1 ow3
    subst eA
    exact XW.of (fun G' H' nx => (clsJ G' H' nx).nxt) q
/-! operations -/
theorem eve_opR {r : R2} {f : D → D → Option D} {mb : Rs β} {val : β → D} {post : β → List Sl} (o : Op2 K cl r f) (ha : EV K cl ta S m S1) (hb : EVE K cl H0 E tb S1 mb val post) : EVE K cl H0 E (tOp r ta tb) S (m.bind fun x => thenR mb fun b => okR ((f x (val b)).map fun z => (z, b))) (·.1) (fun p => post p.2) := fun B G H σ I hB z e Q q => by
  obtain ⟨x, ex, e⟩ := bind_some e
  refine ha B G H σ I x ex _ fun v G1 H1 I1 g1 h1 rv => ?_
  rcases thenR_some e with ⟨b, eb, e⟩ | ⟨x', ex', rfl⟩
  · obtain ⟨w, ew, rfl⟩ := okR_some e
    obtain ⟨y, ey, rfl⟩ := Option.map_eq_some_iff.mp ew
    exact hb B G1 H1 σ I1 hB _ eb _ fun v2 G2 H2 I2 g2 rv2 => o G2 H2 v v2 x _ y I2.nxt.gh (rv.mono g2) rv2 ey _ fun v3 rv3 => q v3 G2 H2 I2 (g1.trans g2) rv3
  · exact hb B G1 H1 σ I1 hB _ ex' _ q
theorem ete_opL {r : R2} {f : D → D → Option D} {ma : Rs β} {mb : β → Option D} {val : β → D} {post : β → List Sl} (o : Op2 K cl r f) (ha : EVE K cl H0 E ta S ma val post) (hb : ∀ b, EV K cl tb (post b) (mb b) (post b)) : ETE K cl H0 E (tTest (tOp r ta tb)) S (thenR ma fun b => okR ((mb b).bind fun y => (f (val b) y).bind fun z => (asB z).map fun c => (c, b))) (·.1) (fun p => post p.2) := fun B G H σ I hB z e Q q => by
  rcases thenR_some e with ⟨b, eb, e⟩ | ⟨x', ex', rfl⟩
  · obtain ⟨w, ew, rfl⟩ := okR_some e
    obtain ⟨y, ey, ew⟩ := bind_some ew
    obtain ⟨z, ez, ew⟩ := bind_some ew
    obtain ⟨c, ec, rfl⟩ := Option.map_eq_some_iff.mp ew
    refine ha B G H σ I hB _ eb _ fun v G1 H1 I1 g1 rv => ?_
    refine hb b B G1 H1 σ I1 y ey _ fun v2 G2 H2 I2 g2 h2 rv2 => ?_
    exact o G2 H2 v v2 _ y z I2.nxt.gh (rv.mono g2) rv2 ez _ fun v3 rv3 => ⟨c, rep_B rv3 ec, q G2 H2 I2 (g1.trans g2)⟩
  · exact ha B G H σ I hB _ ex' _ q
theorem ete_as {mb : Rs β} {tst : β → Bool} {post : β → List Sl} {nx : β → γ} {inv : γ → List Sl} (h : ETE K cl H0 E tt S mb tst post) (e : ∀ b, post b = inv (nx b)) : ETE K cl H0 E tt S (thenR mb fun g => some (.ok (tst g, nx g))) (·.1) (fun p => inv p.2) := fun B G H σ I hB r eb Q q => by
  rcases thenR_some eb with ⟨b, e1, e2⟩ | ⟨x, ex, rfl⟩
  · cases e2
    exact h B G H σ I hB _ e1 Q fun G' H' I' g' => q G' H' (by show Sig K cl B G' H' (inv (nx b)) σ; rw [← e]; exact I') g'
  · exact h B G H σ I hB _ ex Q q
/-- while e: .. -/
noncomputable def whE (c : β → Rs (Bool × β)) (k : β → Rs β) : Nat → β → Rs β
  | 0, _ => none
  | n + 1, b => thenR (c b) fun g => if g.1 = true then thenR (k g.2) (whE c k n) else some (.ok g.2)
theorem sve_while {inv : β → List Sl} {c : β → Rs (Bool × β)} {k : β → Rs β} (n : Nat) (b0 : β) (hw : Weak S (inv b0)) (hc : ∀ b, ETE K cl H0 E tt (inv b) (c b) (·.1) (fun g => inv g.2)) (hb : ∀ b, SVE K cl H0 E t (inv b) (k b) inv) :
    SVE K cl H0 E (tWhile tt t) S (whE c k n b0) inv := fun B G H σ I hB r e Dn q => by
  refine ⟨fun m σ' H' => ∃ b G', whE c k m b = some r ∧ Sig K cl B G' H' (inv b) σ', ⟨n, b0, G, e, I.weak hw⟩, ?_⟩
  rintro m σ' H' ⟨b, G', eb, I'⟩
  cases m with
  | zero => cases eb
  | succ m =>
    rcases thenR_some eb with ⟨g, eg, eb⟩ | ⟨x, ex, rfl⟩
    · refine hc b B G' H' σ' I' hB _ eg _ fun G1 H1 I1 _ => ?_
      cases z : g.1 with
      | true =>
        rw [show ((fun x : Bool × β => x.1) g) = true from z, if_pos rfl]
        rw [z, if_pos rfl] at eb
        rcases thenR_some eb with ⟨b2, eb2, eb⟩ | ⟨x, ex, rfl⟩
        · exact ⟨fun σ2 H2 => ∃ G2, Sig K cl B G2 H2 (inv b2) σ2, fun σ2 H2 ⟨G2, I2⟩ => ⟨m, by omega, b2, G2, eb, I2⟩, hb g.2 B G1 H1 σ' I1 hB _ eb2 _ fun σ2 G2 H2 I2 => ⟨G2, I2⟩⟩
        · exact ⟨fun _ _ => False, fun _ _ z => z.elim, hb g.2 B G1 H1 σ' I1 hB _ ex _ q⟩
      | false =>
        rw [show ((fun x : Bool × β => x.1) g) = false from z, if_neg (by decide)]
        rw [z, if_neg (by decide)] at eb
        cases eb
        exact q σ' G1 H1 I1
    · exact hc b B G' H' σ' I' hB _ ex _ q
end
end Oh
namespace Oh
open PySem PySem.Spec PyProof.Rows L2 Evl
section
variable {K : PySem.W.Frag} {cl : Cl} {G G' H H' H0 : Hp} {B B' : Bs} {S S1 S2 S3 : List Sl} {σ : L2.St} {te ta tb : TE} {ts : TA} {tt : TT} {m n : Option D} {ms : Option (List D)} {t u : TS} {E : XK} {β γ δ : Type} {xa : Addr} {fs : Str → Sh}
/-! ### bodies of defs -/
noncomputable def QVE (K : PySem.W.Frag) (cl : Cl) (xa : Addr) (fs : Str → Sh) (H0 : Hp) (E : XK) (t : TS) (S : List Sl) (m : Rs (D × D)) : Prop := ∀ (B : Bs) (G H : Hp) (σ : L2.St), Sig K cl B G H S σ → B.H = H0 → ∀ r, m = some r → ∀ Dn : Ends,
  (match r with | .ok r => OEnd K cl xa fs B Dn r | .error x => XW cl B E x) → t Dn σ H
noncomputable def TVE (K : PySem.W.Frag) (cl : Cl) (H0 : Hp) (E : XK) (t : TS) (S : List Sl) (fl : Bool) (m : Rs D) : Prop := ∀ (B : Bs) (G H : Hp) (σ : L2.St), Sig K cl B G H S σ → B.H = H0 → ∀ r, m = some r → ∀ Dn : Ends,
  (match r with
    | .ok d => (∀ v G' H', Nxt B.G B.H G' H' → Rep K cl G' v d → Dn.rt v H') ∧ (fl = true → d = .non → ∀ σ' G' H', Nxt B.G B.H G' H' → Dn.nx σ' H')
    | .error x => XW cl B E x) → t Dn σ H
theorem qve_cons {mb : Rs β} {post : β → List Sl} {k : β → Rs (D × D)} (h : SVE K cl H0 E t S mb post) (r : ∀ b, QVE K cl xa fs H0 E u (post b) (k b)) : QVE K cl xa fs H0 E (tSeq t u) S (thenR mb k) := fun B G H σ I hB rr e Dn q => by
  rcases thenR_some e with ⟨b, eb, e⟩ | ⟨x, ex, rfl⟩
  · refine h B G H σ I hB _ eb { Dn with nx := u Dn } fun σ' G' H' I' => r b B G' H' σ' I' hB rr e Dn ?_
    cases rr <;> exact q
  · exact h B G H σ I hB _ ex _ q
theorem qve_ret {mb : Rs β} {val : β → D} {pst : β → List Sl} {ob : β → D} (h : EVE K cl H0 E te S mb val pst) (h0 : ∀ b, (pst b)[0]? = some (.ow (.j (some xa) fs) (ob b))) : QVE K cl xa fs H0 E (tSeq (tRet te) tNever) S (thenR mb fun b => some (.ok (val b, ob b))) := fun B G H σ I hB r e Dn q => by
  rcases thenR_some e with ⟨b, eb, e⟩ | ⟨x, ex, rfl⟩
  · cases e
    exact h B G H σ I hB _ eb _ fun v G' H' I' g rv => q v G' H' _ _ I' (h0 b) rv
  · exact h B G H σ I hB _ ex _ q
theorem qve_ifl {mc : Rs β} {tst : β → Bool} {pst : β → List Sl} {ma mr : β → Rs (D × D)} (hc : ETE K cl H0 E tt S mc tst pst) (ha : ∀ b, QVE K cl xa fs H0 E t (pst b) (ma b)) (hr : ∀ b, QVE K cl xa fs H0 E u (pst b) (mr b)) :
    QVE K cl xa fs H0 E (tSeq (tIfS tt t tNext) u) S (thenR mc fun b => if tst b = true then ma b else mr b) := fun B G H σ I hB r e Dn q => by
  rcases thenR_some e with ⟨b, eb, e⟩ | ⟨x, ex, rfl⟩
  · refine hc B G H σ I hB _ eb _ fun G1 H1 I1 g => ?_
    cases z : tst b with
    | true =>
      rw [z, if_pos rfl] at e
      refine ha b B G1 H1 σ I1 hB r e _ ?_
      cases r <;> exact q
    | false =>
      rw [z, if_neg (by decide)] at e
      exact hr b B G1 H1 σ I1 hB r e Dn q
  · exact hc B G H σ I hB _ ex _ q
theorem tve_cons {fl : Bool} {mb : Rs β} {post : β → List Sl} {k : β → Rs D} (h : SVE K cl H0 E t S mb post) (r : ∀ b, TVE K cl H0 E u (post b) fl (k b)) : TVE K cl H0 E (tSeq t u) S fl (thenR mb k) := fun B G H σ I hB rr e Dn q => by
  rcases thenR_some e with ⟨b, eb, e⟩ | ⟨x, ex, rfl⟩
  · refine h B G H σ I hB _ eb { Dn with nx := u Dn } fun σ' G' H' I' => r b B G' H' σ' I' hB rr e Dn ?_
    cases rr <;> exact q
  · exact h B G H σ I hB _ ex _ q
theorem TV.e {fl : Bool} (h : TV K cl t S fl m) : TVE K cl H0 E t S fl (okR m) := fun B G H σ I _ r e Dn q => by
  obtain ⟨d, ed, rfl⟩ := okR_some e
  exact h B G H σ I d ed Dn q.1 q.2
/-! ### defs by their bodies -/
section
variable {P : Program} {w : World} {mg : Str → Option Value} {base : Heap} {qual : Str} {st : Stmt} {fa gc : Addr} {fd : FuncData} {N ps : List Str} {k n : Nat}
theorem fun_conE {x : Str} {f : List D → Rs D}
    (F : FunC K x qual st fa fd gc) (SC : FnScope N ps (defScope st)) (hn : ps.length = n) (ar : ∀ ds r, f ds = some r → ds.length = n) (hm : mg x = some (.ref fa)) (hb : Binds K fd ps [])
    (body : ∀ (A : Around) (outer : List Env) (s : Shared) (H : Hp) (E : XK), Room k (A.deeper (envOfC qual (defScope st) s.heap.objs.size fa (.ref gc))) →
      ∃ t, PSs (cxOf (L2N.CX P w) P w K mg base N qual (defScope st) fa (.ref gc) A outer s H E) (defBody st) t ∧ ∀ ds : List D, ds.length = n → TVE K cl H E t (ds.map .vl ++ List.replicate (N.length - n) .jk) true (f ds)) : ConE P w K cl mg base (k + 1) x f fa fd ps := by
  obtain ⟨oc, od, kV, doc, pm, an, ct, osl, rfl, lk, hcd⟩ := F.ex
  refine ⟨fn_of lk hcd SC (fun vs H Q E h => ?_) fun A outer s H vs Q E hr h => ?_, hm, F.kp, hb⟩
  · obtain ⟨G, ds, r, _, _, rs, e, _⟩ := h
    rw [rs.length, ar ds r e, hn]
  · obtain ⟨G, ds, r, gh, tb, rs, e, q⟩ := h
    obtain ⟨t, hp, ht⟩ := body A outer s H E hr
    have hl := ar ds r e
    have hv : vs.length = n := rs.length.trans hl
    refine ⟨t, hp, ?_⟩
    have e0 : L2.start N vs = vs.map some ++ List.replicate (N.length - n) none := by unfold L2.start; rw [hv]
    rw [e0]
    refine ht ds hl ⟨G, H⟩ G H _ ⟨Nxt.refl gh, by simp [rs.length], tb, fun _ => [], fun i s hs => ?_, fun _ _ _ _ _ _ z => nomatch z⟩ rfl r e _ ?_
    · obtain ⟨o, h1, h2⟩ := slot_start rs hs
      refine ⟨o, h1, ?_⟩
      rcases h2 with rfl | ⟨v, d', rfl, rfl, rv⟩
      · rfl
      · exact ⟨rfl, v, rfl, rv⟩
    · cases r with
      | ok d => exact ⟨fun v G' H' nx rv => q v G' H' nx rv, fun _ z σ' G' H' nx => by subst z; exact q .non G' H' nx .non⟩
      | error x => exact q
end
end
end Oh
namespace Oh
open PySem PySem.Spec PyProof.Rows L2 Evl
section
variable {K : PySem.W.Frag} {cl : Cl} {G G' H H' H0 : Hp} {B B' : Bs} {S S1 S2 S3 : List Sl} {σ : L2.St} {te ta tb : TE} {ts : TA} {tt : TT} {m n : Option D} {ms : Option (List D)} {t u : TS} {E : XK} {β γ δ : Type} {xa : Addr} {fs : Str → Sh}
variable {P : Program} {w : World} {mg : Str → Option Value} {base : Heap} {mn x qual : Str} {st : Stmt} {fa gc : Addr} {fd : FuncData} {N ps : List Str} {k c : Nat} {nn : Nat}
/-- the promise of a def, or a method, that changes its first argument and may let an exception out, by its body -/
theorem ownE_ok {f : D → List D → Rs (D × D)}
    (F : FunC K x qual st fa fd gc) (SC : FnScope N ps (defScope st)) (hn : ps.length = nn + 1) (ar : ∀ d ds r, f d ds = some r → ds.length = nn)
    (body : ∀ (A : Around) (outer : List Env) (s : Shared) (H : Hp) (E : XK), Room k (A.deeper (envOfC qual (defScope st) s.heap.objs.size fa (.ref gc))) →
      ∃ t, PSs (cxOf (L2N.CX P w) P w K mg base N qual (defScope st) fa (.ref gc) A outer s H E) (defBody st) t ∧ ∀ (xa : Addr) (H0 : Hp) (d : D) (ds : List D), ds.length = nn →
        (∀ q, H0 q ≠ none → H q ≠ none) → QVE K cl xa fs H0 E t (.ow (.j (some xa) fs) d :: (ds.map .vl ++ List.replicate (N.length - (nn + 1)) .jk)) (f d ds)) : FnOk P w K mg base (L2N.CX P w) (k + 1) fa fd ps (spOE K cl fs f) := by
  obtain ⟨oc, od, kV, doc, pm, an, ct, osl, rfl, lk, hcd⟩ := F.ex
  refine fn_of lk hcd SC (fun vs H Q E h => ?_) fun A outer s H vs Q E hr h => ?_
  · obtain ⟨G, x, vs', d, ds, A, r, rfl, _, _, _, _, _, rs, e, _⟩ := h
    rw [List.length_cons, rs.length, ar d ds _ e, hn]
  · obtain ⟨G, x, vs', d, ds, A0, r, rfl, gh, tb, ow, nd, gA, rs, e, q⟩ := h
    obtain ⟨t, hp, ht⟩ := body A outer s H E hr
    have hl := ar d ds _ e
    have hv : vs'.length = nn := rs.length.trans hl
    obtain ⟨p, rfl⟩ : ∃ p, x = .ref p := by obtain ⟨p, _, _, _, _, _, h1, _⟩ := ow; exact ⟨p, h1⟩
    refine ⟨t, hp, ?_⟩
    have e0 : L2.start N (.ref p :: vs') = some (.ref p) :: (vs'.map some ++ List.replicate (N.length - (nn + 1)) none) := by unfold L2.start; rw [List.length_cons, hv]; rfl
    rw [e0]
    refine ht p (cutA H A0) d ds hl (fun q hq z => hq ?_) ⟨G, cutA H A0⟩ G H _ (start_own gh tb ow nd gA rs) rfl _ e _ ?_
    · by_cases y : q ∈ A0
      · exact cutA_in y
      · rw [cutA_out y]; exact z
    · cases r with
      | error x => exact q
      | ok r =>
        exact fun v G' H' S' σ' I' h0 rv => by
          obtain ⟨v1, A1, hσ, ow1, nd1, out1, _⟩ := I'.thru h0
          have ev : v1 = .ref p := by obtain ⟨p', _, _, _, _, _, h1, hpo, _⟩ := ow1; rw [h1, hpo p rfl]
          subst ev
          refine q v G' H' A1 I'.nxt ow1.none_ nd1 (fun a ha => ⟨(out1 a ha).1, ?_⟩) rv
          have := (out1 a ha).2
          by_cases z : a ∈ A0
          · exact .inl z
          · rw [show (⟨G, cutA H A0⟩ : Bs).H a = H a from cutA_out z] at this; exact .inr this
end
end Oh
namespace Oh
open PySem PySem.Spec PyProof.Rows L2 Evl
section
variable {K : PySem.W.Frag} {cl : Cl} {H0 : Hp} {S S1 S2 : List Sl} {te ta tb : TE} {m : Option D} {E : XK} {β γ : Type}
/-- xs.index(e), e may let one out -/
theorem eve_index {tx : TE} {mb : Rs β} {val : β → D} {post : β → List Sl} (h : EV K cl te S m S1) (hx : EVE K cl H0 E tx S1 mb val post) : EVE K cl H0 E (tBM K "list" (rIndex K) te (tCons tx tNil)) S (m.bind fun d => (asL d).bind fun _ => thenR mb fun b => okR ((dIndex d (val b)).map fun z => (z, b))) (·.1) (fun p => post p.2) := fun B G H σ I hB z e Q q => by
  obtain ⟨d, ed, e⟩ := bind_some e
  obtain ⟨xs, exs, e⟩ := bind_some e
  refine h B G H σ I d ed _ fun v G1 H1 I1 g1 h1 rv => ?_
  obtain ⟨a, vs, rfl, sq, rs⟩ : ∃ a vs, v = .ref a ∧ SqL K G1 a vs ∧ Reps K cl G1 vs xs := by
    cases rv with
    | lst hg rs => cases exs; exact ⟨_, _, rfl, sq_of hg, rs⟩
    | rol hg rs => cases exs; exact ⟨_, _, rfl, hg, rs⟩
    | _ => cases exs
  refine ⟨Or.inl ⟨rfl, _, ex_l I1.nxt.gh sq⟩, ?_⟩
  rcases thenR_some e with ⟨b, eb, e⟩ | ⟨x', ex', rfl⟩
  · obtain ⟨w, ew, rfl⟩ := okR_some e
    obtain ⟨z0, ez, rfl⟩ := Option.map_eq_some_iff.mp ew
    obtain ⟨xs', exs', ez⟩ := bind_some ez
    rw [exs] at exs'
    cases exs'
    obtain ⟨ks, eks, ez⟩ := bind_some ez
    obtain ⟨k, ek, ez⟩ := bind_some ez
    obtain ⟨j, ej, rfl⟩ := Option.map_eq_some_iff.mp ez
    obtain ⟨hj, hj1, hj2⟩ := List.findIdx?_eq_some_iff_getElem.mp ej
    have ev := kys_reps eks rs
    subst ev
    refine hx B G1 H1 σ I1 hB _ eb _ fun w G2 H2 I2 g2 rw_ => ?_
    have ew := ky_rep ek rw_
    subst ew
    refine ⟨a, ks.map kyV, kyV k, j, kyV ks[j], rfl, rfl, ex_l I2.nxt.gh (ex_l g2 sq), ky_flat k, ?_, ?_, ?_, fun m z' hm hz => ?_, q _ G2 H2 I2 (g1.trans g2) .int⟩
    · rw [List.all_eq_true]
      intro y hy
      obtain ⟨k', _, rfl⟩ := List.mem_map.mp hy
      exact ky_flat k'
    · rw [List.getElem?_map, List.getElem?_eq_getElem hj]; rfl
    · rw [ky_eq]; exact hj1
    · rw [List.getElem?_map] at hz
      obtain ⟨k', hk', rfl⟩ := Option.map_eq_some_iff.mp hz
      have hml : m < ks.length := Nat.lt_trans hm hj
      rw [List.getElem?_eq_getElem hml] at hk'
      cases hk'
      rw [ky_eq]
      have := hj2 m hm
      simpa using this
  · exact hx B G1 H1 σ I1 hB _ ex' _ q
/-- nothing -/
theorem sve_next {b : β} {post : β → List Sl} (w : Weak S (post b)) : SVE K cl H0 E tNext S (some (.ok b)) post := fun B G H σ I hB r e Dn q => by
  cases e
  exact q σ G H (I.weak w)
/-- a plain test -/
theorem ET.e {tt : TT} {mc : Option Bool} (h : ET K cl tt S mc S1) : ETE K cl H0 E tt S (okR mc) id (fun _ => S1) := fun B G H σ I hB r e Q q => by
  obtain ⟨c, ec, rfl⟩ := okR_some e
  exact h B G H σ I c ec _ fun G' H' I' g _ => q G' H' I' g
/-- a plain expression -/
theorem EV.e (h : EV K cl te S m S1) : EVE K cl H0 E te S (okR m) id (fun _ => S1) := fun B G H σ I hB r e Q q => by
  obtain ⟨d, ed, rfl⟩ := okR_some e
  exact h B G H σ I d ed _ fun v G' H' I' g _ rv => q v G' H' I' g rv
/-- return of what may let one out, in a plain def -/
theorem tve_ret {fl : Bool} {mb : Rs β} {val : β → D} {post : β → List Sl} (h : EVE K cl H0 E te S mb val post) : TVE K cl H0 E (tSeq (tRet te) tNever) S fl (thenR mb fun b => some (.ok (val b))) := fun B G H σ I hB r e Dn q => by
  rcases thenR_some e with ⟨b, eb, e⟩ | ⟨x', ex', rfl⟩
  · cases e
    exact h B G H σ I hB _ eb _ fun v G' H' I' _ rv => q.1 v G' H' I'.nxt rv
  · exact h B G H σ I hB _ ex' _ q
end
end Oh
namespace Oh
open PySem PySem.Spec PyProof.Rows L2 Evl PySem.W
/-! ### super().__init__(..) in the __init__ of an exception class over ValueError -/
section
variable {X : Cx} {pins : List (Addr × Obj)} {σ : L2.St} {H : Hp} {s : Shared} {a C D cc f cda : Addr} {i : Nat}
/-- what is known of the def, its closure, its class -/
structure SupF (X : Cx) (f cda cc C : Addr) (fd : FuncData) : Prop where
  fu : X.env.func = some f
  lf : ∃ oc od osl, X.K.lookup f = some ⟨oc, od, .func fd, osl⟩
  hp : ∃ ar, (fd.params.posonlyargs ++ fd.params.args).head? = some ar ∧ ar.arg = ("self" : Str)
  co : X.env.code = .ref cda
  lc : ∃ ccl cdd vs ccs file tf, X.K.lookup cda = some ⟨ccl, cdd, .fields vs, ccs⟩ ∧ vs[2]? = some (.str file tf) ∧ ((X.prog.main.file : Str) == file) = true
  top : (X.prog.main.scope.names.lookup ("super" : Str)).isSome = false
  cl : X.env.cells.lookup ("__class__" : Str) = some cc
  lcc : ∃ cl cld csl, X.K.lookup cc = some ⟨cl, cld, .cell (some (.ref C)), csl⟩
  ks : X.env.scope.names.lookup ("super" : Str) = some .globalImplicit
  kc : X.env.scope.names.lookup ("__class__" : Str) = some .free
  ka : X.env.scope.names.lookup ("self" : Str) = some .local
  sub : mroIn X.K C (.ref C) = some true
  mg : X.mg "super" = none
  opq : nsIn X.K cStatics "thirdparty.any" = some none
  sup : ks_superIn X.K C C "__init__" = some (some (.builtin "ValueError.__init__"))
  isV : subIn X.K (.ref C) (.type "ValueError") = some true
theorem super_at {body : List Stmt} {p0 p1 : Pos} {whole : Sem Value} {fd : FuncData} {pl : Sem Bool} {E : Value → Shared → Prop} {R : Value × List Value → Shared → Prop} (F : SupF X f cda cc C fd) (T : OexC X.K C) (I : Inv X pins σ H s) (hi : X.N[i]? = some ("self" : Str)) (ha : σ[i]? = some (some (.ref a))) (e : H a = some (exo a C none))
    (h : ∀ u s', Inv X ((u, kxs_mw "ValueError.__init__" a) :: pins) σ H s' → R (.ref u, []) s') :
    _root_.PySem.wpAt (model X.prog X.w) X.A (.func body X.env) (attributeBase (.Call (.Name "super" p0) [] [] p1) "__init__" X.env whole) (fun ov s1 => wpAny (model X.prog X.w) X.A (getMethod ov "__init__" pl) R E s1) E s := by
  obtain ⟨oc, od, osl, lf⟩ := F.lf
  obtain ⟨ar, hp, har⟩ := F.hp
  obtain ⟨ccl, cdd, vs, ccs, file, tf, lc, hvs, hfile⟩ := F.lc
  obtain ⟨cl, cld, csl, lcc⟩ := F.lcc
  obtain ⟨m, hn, hl⟩ := I.loc
  obtain ⟨u, ru, look⟩ := hl i "self" (.ref a) hi ha (.inl F.ka)
  obtain rfl : u = Value.ref a := ru
  have kaz := F.ka
  have hself : m "self" = some (.ref a) := by
    rcases look with ⟨_, z⟩ | ⟨z, _⟩
    · exact z
    · rcases z with y | y
      · rw [show X.env.scope.names.lookup ("self" : Str) = some .cell from y] at kaz; cases kaz
      · rw [show X.env.scope.names.lookup ("self" : Str) = some .free from y] at kaz; cases kaz
  obtain ⟨nm, q, N, bs, bm, sn, sub, ab, col, dd, k0, k1, k2, k3, k5, hC, hbm⟩ := T.cls
  have KI := I.kIn
  obtain ⟨t1, ho⟩ := exo_at I.hok e
  obtain ⟨mb, b1, b2⟩ := I.mod.blt
  refine ks_wpAt_super_base (env := X.env) F.ks F.kc rfl F.fu (KI _ _ lf) rfl hp F.co (KI _ _ lc) rfl hvs hfile F.top ?_
  refine ks_loadName_global I.ok.kind F.ks (Calls.loadGlobal_builtin (by rw [I.ok.glob]; exact I.mod.glob.keeps I.bk) F.mg (by rw [I.ok.blt]; exact b1.keeps I.bk) ((b2 _ (by decide)).trans (by rfl : bootBuiltins "super" = some (.type "super"))) ⟨rfl, ?_⟩)
  refine wpAny_loadName_free I.ok.kind F.kc F.cl ⟨_, KI _ _ lcc, rfl⟩ ?_
  rw [har]
  refine wpAny_loadName_local I.ok.kind F.ka hn hself ?_
  refine ks_wpAny_isType_cls (KI _ _ hC) rfl ⟨rfl, ?_⟩
  obtain ⟨hh, g, d, tk, os⟩ := s
  refine ks_wpAny_call_super (KI _ _ hC) rfl ho rfl (fun c z => nomatch z) (looks_mroIn KI F.sub) (fun h' e1 kp => ?_)
  have I1 : Inv X pins σ H ⟨h', g, d, tk, os⟩ := I.kept (t' := tk) kp
  have K1 := I1.kIn
  have ho1 := kp _ _ ho
  obtain ⟨cd, hcd⟩ : ∃ cd, clsIn X.K C = some cd := by
    cases z : clsIn X.K C with
    | some cd => exact ⟨cd, rfl⟩
    | none => have := F.sup; unfold ks_superIn at this; rw [z] at this; cases this
  have hsup := F.sup
  unfold ks_superIn at hsup
  rw [hcd] at hsup
  have II : InstAt h' a _ C none := ⟨ho1, rfl, rfl, True.intro⟩
  refine kxs_getMethod kxs_ValueError e1 (looks_opaque K1 F.opq) (l₀ := cd.mro) ?_ rfl K1 hsup (II.type.andThen (looks_subIn K1 F.isV)) (ks_ne K1 II hcd) rfl ?_
  · exact fun A Q E s k q => wpAny_bind ((looks_clsIn K1 hcd) A _ E s k (wpAny_pure q))
  · have I2 : Inv X pins σ H ⟨h'.push (kxs_mw "ValueError.__init__" a), g, d, tk + 1, os⟩ := I1.kept (t' := tk + 1) fun b o z => Heap.get?_push_of_some _ z
    have fp := I1.fpOk (b := h'.objs.size) (Nat.le_refl _) (I1.hok.fresh (Nat.le_refl _))
    refine h _ _ (I2.pins_of fun p hp => ?_)
    rcases List.mem_cons.mp hp with z | z
    · subst z
      exact ⟨Heap.get?_push_at rfl rfl, fp.1, fp.2.1, fp.2.2.1, fun v z => nomatch z⟩
    · exact I2.pin p (List.mem_append_right _ z)
/-- what is bound is called -/
theorem super_call {u : Addr} {us : List Value} {E : Value → Shared → Prop} {Q : Value → Shared → Prop} (T : OexC X.K C) (I : Inv X ((u, kxs_mw "ValueError.__init__" a) :: pins) σ H s) (e : H a = some (exo a C none)) (hl : us.length ≤ sizeLine) (h : ∀ s', Inv X ((u, kxs_mw "ValueError.__init__" a) :: pins) σ H s' → Q .none s') :
    wpAny (model X.prog X.w) X.A (call (.ref u) us) Q E s := by
  obtain ⟨nm, q, N, bs, bm, sn, sub, ab, col, dd, k0, k1, k2, k3, k5, hC, hbm⟩ := T.cls
  obtain ⟨t1, ho⟩ := exo_at I.hok e
  have hu : s.heap.get? u = some (kxs_mw "ValueError.__init__" a) := (I.pin _ (List.mem_append_right _ List.mem_cons_self)).1
  have FB := PySem.F.excBase_ValueError
  have hCC := I.kIn _ _ hC
  obtain ⟨hp, g, d, t, os⟩ := s
  refine wpAny_call (codeAny_of_tree ?_)
  show wpAny _ X.A.in1 (callAny (.ref u) ⟨us, []⟩) _ _ _
  simp only [callAny]
  refine wpAny_bind (wpAny_load hu ?_)
  simp only [kxs_mw, show (Value.type "method-wrapper" == Value.type "method" || Value.type "method-wrapper" == Value.type "builtin_function_or_method" || Value.type "method-wrapper" == Value.type "method-wrapper") = true by decide, if_true]
  refine KFB.if_so (by decide) ?_
  refine wpAny_bind (check_bound_init FB.toExcCallFacts hCC ho rfl ?_)
  refine wpAny_bind (wpAny_pure (wpAny_pure ?_))
  refine ⟨plainId_quiet FB.init.plain _, codeAny_builtin FB.initEntry ?_⟩
  refine exc_init_tree (cls := .ref C) (t0 := t1) (dv := none) (c2 := .none) (c3 := .none) (b4 := .bool false) ho hl fun h' k hx _ => ?_
  have J := I.write (t' := t) (x := a) (e := a) (o := exo a C none) (by rw [e]; exact True.intro) (.inl rfl) k ⟨_, hx⟩ (exo_ok hx)
  have eu : upd H a (exo a C none) = H := by
    funext b
    by_cases hb : b = a
    · rw [hb, upd_same, e]
    · rw [upd_ne hb]
  rw [eu] at J
  exact h _ J
/-- super().__init__(e, ..) as a statement; then the rest -/
noncomputable def tSupI (K : PySem.W.Frag) (C : Addr) (i : Nat) (ta : TA) (tr : TS) : TS := fun D σ H => ∃ a, σ[i]? = some (some (.ref a)) ∧ H a = some (exo a C none) ∧ OexC K C ∧ ta σ H fun vs H1 => vs.length ≤ 1000 ∧ H1 a = some (exo a C none) ∧ tr D σ H1
theorem super_exec {body rest : List Stmt} {p0 p1 apos pos epos : Pos} {fd : FuncData} {ta : TA} {tr : TS} {e0 : Expr} {es : List Expr} {Dn : Ends} {pl : Sem Bool} (F : SupF X f cda cc C fd) (hi : X.N[i]? = some ("self" : Str)) (I : Inv X pins σ H s)
    (hA : PA X (e0 :: es) ta) (hr : PSs X rest tr) (h : tSupI X.K C i ta tr Dn σ H)
    (he : starEach (e0 :: es) X.env = (false, eval e0 X.env) :: starEach es X.env := by rfl) (hpl : (backTo pos (starEach es X.env)).any (·.1) = false := by rfl)
    (hint : interactive X.env = false := by rfl) (hsw : swapsWith (.Call (.Attribute (.Call (.Name "super" p0) [] [] p1) "__init__" apos) (e0 :: es) [] pos) none epos.line X.env = pure false := by rfl)
    (hev : eval (.Call (.Attribute (.Call (.Name "super" p0) [] [] p1) "__init__" apos) (e0 :: es) [] pos) X.env = (do
      let ov ← attributeBase (.Call (.Name "super" p0) [] [] p1) "__init__" X.env (eval (.Call (.Name "super" p0) [] [] p1) X.env)
      standAt apos.atName
      let (f, first) ← holding [ov] (getMethod ov "__init__" pl)
      callWith pos f first (backTo pos (starEach (e0 :: es) X.env)) []) := by rfl) :
    _root_.PySem.wpAt (model X.prog X.w) X.A (.func body X.env) (execs (.Expr (.Call (.Attribute (.Call (.Name "super" p0) [] [] p1) "__init__" apos) (e0 :: es) [] pos) epos :: rest) X.env) (SP X pins Dn) X.xe s := by
  obtain ⟨a, ha, e, T, hta⟩ := h
  refine ks_wpAt_execs_cons (ks_wpAt_Expr_any (ks_wpAt_MethodCall (super_at F T I hi ha e fun u s1 I1 => ?_) hev) hint hsw)
  refine (?_ : wpAny (model X.prog X.w) X.A (callWith pos (.ref u) [] (backTo pos (starEach (e0 :: es) X.env)) []) _ X.xe s1)
  have hd := hA.run pos _ s1 σ H _ I1 hta
  rw [he] at hd ⊢
  refine kxs_callWith (i := "ValueError.__init__") (x := a) (by show (false || (backTo pos (starEach es X.env)).any (·.1)) = false; rw [hpl]; rfl) (Calls.evalArgs_plain (wpAny_mono hd (fun us s2 hq => ?_) fun _ _ z => z))
  obtain ⟨vs, H1, I2, rv, hz, e1, hq⟩ := hq
  have hu := (I2.pin _ (List.mem_append_right _ List.mem_cons_self)).1
  refine ⟨hu, ?_⟩
  refine super_call T I2 e1 (by show us.length ≤ sizeLine; rw [← rv.length, sizeLine_eq]; omega) fun s3 I3 => ?_
  have I4 : Inv X pins σ H1 s3 := I3.pins_of fun p hp => I3.pin p (List.mem_append_right _ (List.mem_cons_of_mem _ hp))
  exact wpAt_of_wpAny (hr.run pins s3 σ H1 Dn I4 hq)
end
/-! ### the promise of such an __init__ -/
section
open NdefX
variable {CX : CXT} {P : Program} {w : World} {K : PySem.W.Frag} {mg : Str → Option Value} {base : Heap} {N ps : List Str} {NFn : NF} {f cc C : Addr} {k : Nat} {sp : Sp} {doc pm ctv oc : Value} {od : Option Addr} {osl : Array (Option Value)}
theorem super_fn {rest : List Stmt} {p0 p1 apos pos epos : Pos} {e0 : Expr} {es : List Expr} (S : NScope N ps ["__class__"] NFn.scope) (hcl : NFn.cl = [(("__class__" : Str), cc)]) (lk : K.lookup f = some ⟨oc, od, .func (NFn.fd doc pm ctv), osl⟩) (hcd : PySem.W.codeIn K (.ref NFn.c) NFn.qual = true)
    (hbody : NFn.body = .Expr (.Call (.Attribute (.Call (.Name "super" p0) [] [] p1) "__init__" apos) (e0 :: es) [] pos) epos :: rest)
    (lcc : ∃ cl cld csl, K.lookup cc = some ⟨cl, cld, .cell (some (.ref C)), csl⟩) (hself : N[0]? = some ("self" : Str))
    (len : ∀ vs H Q E, sp vs H Q E → vs.length = ps.length)
    (hb : ∀ (A : Around) (outer : List Env) (s : Shared) (H : Hp) (vs : List V) (Q : VK) (E : XK), Room k (A.deeper (envF NFn f s.heap.objs.size)) → sp vs H Q E →
      SupF (ncx CX P w K mg base N NFn f A outer s H E) f NFn.c cc C (NFn.fd doc pm ctv) ∧ ∃ ta tr, PA (ncx CX P w K mg base N NFn f A outer s H E) (e0 :: es) ta ∧ PSs (ncx CX P w K mg base N NFn f A outer s H E) rest tr ∧
        starEach (e0 :: es) (envF NFn f s.heap.objs.size) = (false, eval e0 (envF NFn f s.heap.objs.size)) :: starEach es (envF NFn f s.heap.objs.size) ∧ (backTo pos (starEach es (envF NFn f s.heap.objs.size))).any (·.1) = false ∧
        swapsWith (.Call (.Attribute (.Call (.Name "super" p0) [] [] p1) "__init__" apos) (e0 :: es) [] pos) none epos.line (envF NFn f s.heap.objs.size) = pure false ∧ interactive (envF NFn f s.heap.objs.size) = false ∧
        (∃ pl : Sem Bool, eval (.Call (.Attribute (.Call (.Name "super" p0) [] [] p1) "__init__" apos) (e0 :: es) [] pos) (envF NFn f s.heap.objs.size) = (do
          let ov ← attributeBase (.Call (.Name "super" p0) [] [] p1) "__init__" (envF NFn f s.heap.objs.size) (eval (.Call (.Name "super" p0) [] [] p1) (envF NFn f s.heap.objs.size))
          standAt apos.atName
          let (fx, first) ← holding [ov] (getMethod ov "__init__" pl)
          callWith pos fx first (backTo pos (starEach (e0 :: es) (envF NFn f s.heap.objs.size))) [])) ∧
        tSupI K C 0 ta tr { nx := fun _ H' => Q .non H', rt := Q } (startF N vs [some (.ref C)]) H) :
    FnOk P w K mg base CX (k + 1) f (NFn.fd doc pm ctv) ps sp := by
  refine ⟨len, fun A outer s H args us vs Q E hr e0' hbi r hsp => ?_⟩
  have hl := len _ _ _ _ hsp
  have lim : s.heap.NoLimit := e0'.mod.nolimit.keeps fun b o e => (e0'.bs b o e).1
  have KX : K.In s.heap := e0'.mod.kin.keeps fun b o e => (e0'.bs b o e).1
  refine codeAny_call_function hr.depth (KX _ _ lk) rfl S.co S.gen rfl (PySem.W.codeRec_of KX hcd) (hbi _ _ _ _ ?_)
  refine wpAny_newFunctionEnv S.nocell (fun ⟨n, _⟩ hy => S.par n (List.of_mem_zip hy).1) (fun h₁ hns hsb => ⟨lim.fresh _ hsb, ?_⟩) S.kind
  show codeAny _ _ (.func NFn.body (envF NFn f s.heap.objs.size)) _ _
  refine ks_codeAny_funcAt ?_
  have kp : ∀ b o, s.heap.get? b = some o → h₁.get? b = some o := fun b o e => hsb.extBut b o (Nat.ne_of_lt (Heap.lt_size e)) (Heap.get?_push_of_some _ e)
  obtain ⟨SF, ta, tr, hA, hR, hst, hpl, hsw, hint, ⟨pl, hev⟩, ht⟩ := hb A outer s H vs Q E (hr.deeper _) hsp
  have Cc : CellsAt NFn.cl ["__class__"] [some (.ref C)] s.heap H := by
    obtain ⟨cl, cld, csl, lcc⟩ := lcc
    rw [hcl]
    have hcc := e0'.bs _ _ (e0'.mod.kin _ _ lcc)
    refine ⟨rfl, fun y c z => ?_, fun x y c z1 z2 => ?_, fun j y hj => ?_⟩
    · have : c = cc := by
        by_cases q : y = "__class__"
        · subst q; simpa using z.symm
        · simp [List.lookup, beq_false_of_ne q] at z
      subst this
      exact ⟨hcc.2, _, _, hcc.1, rfl⟩
    · have key : ∀ y, ([(("__class__" : Str), cc)] : List (Str × Addr)).lookup y = some c → y = "__class__" := fun y z => by
        by_cases q : y = "__class__"
        · exact q
        · simp [List.lookup, beq_false_of_ne q] at z
      rw [key x z1, key y z2]
    · cases j with
      | zero =>
        cases hj
        exact ⟨cc, rfl, fun v hv => by cases hv; exact ⟨_, rfl, _, hcc.1, rfl⟩⟩
      | succ j => cases hj
  have I : Inv (ncx CX P w K mg base N NFn f A outer s H E) [] (startF N vs [some (.ref C)]) H { s with heap := h₁, toks := s.toks + (ps.zip us).length } := inv_startN S hr.hd e0' hl r Cc hns kp
  have go := super_exec (body := NFn.body) SF hself I hA hR ht hst hpl hint hsw hev
  rw [← hbody] at go
  refine ks_wpAt_mono go (fun fl s' hs => ?_) fun e s' hs => hs
  have fin : ∀ {σ' : L2.St} {H' : Hp} {v : V} {u : Value}, Inv (ncx CX P w K mg base N NFn f A outer s H E) [] σ' H' s' → L2.RelV v u → Q v H' → CE outer P w H s Q u s' :=
    fun {σ' H' v u} J rv q => ⟨v, H', J.os, J.bare, J.base, J.hok, rv, q⟩
  cases fl with
  | ret u =>
    obtain ⟨v, σ', H', J, rv, q⟩ := hs
    exact fin J rv q
  | next =>
    obtain ⟨σ', H', J, q⟩ := hs
    exact fin (v := V.non) (u := Value.none) J rfl q
  | brk =>
    obtain ⟨_, _, _, q⟩ := hs
    exact False.elim q
  | cont =>
    obtain ⟨_, _, _, q⟩ := hs
    exact False.elim q
end
end Oh
namespace Oh
open PySem PySem.Spec PyProof.Rows L2 Evl
/-! ### X(e, ..), X with an __init__ of its own, where the exception's context is known to be None (the library's L2N): what a suite that calls defs wants -/
section
variable {X : Cx}
theorem pmk_oexN {CX : CXT} {x : Str} {C fI : Addr} {k : Nat} {fd : FuncData} {ps : List Str} {sp : Sp} {e : Expr} {es : List Expr} {ta : TA} {p pos : Pos} (T : OexC X.K C) (iC : PySem.W.findIn X.K (.ref C) "__init__" = some (some (.ref fI))) (tI : PySem.W.typeIn X.K (.ref fI) = some (.type "function"))
    (F1 : FnOk X.prog X.w X.K X.mg X.base CX k fI fd ps sp) (hr : Room (k + 1) X.A) (hb : Binds X.K fd ps []) (hx : Passes CX X (fun _ _ _ => False)) (hg : Gl X x) (hm : X.mg x = some (.ref C)) (ha : PA X (e :: es) ta)
    (hdb : (x == ("__debug__" : Str)) = false := by decide) (he : starEach (e :: es) X.env = (false, eval e X.env) :: starEach es X.env := by rfl) (hpl : (backTo pos (starEach es X.env)).any (·.1) = false := by rfl) :
    L2N.PMk X (.Call (.Name x p) (e :: es) [] pos) (tMkO C sp [] ta) := by
  intro pins s σ H Q I h
  refine wpAny_Call_Name_kw (ld_glob I hg hm ?_ hdb)
  refine PySem.W.callWith_K (h₀ := X.base) I.ok.mod.kin T.kC (thn (ha.run pos pins s σ H _ I h) fun us s1 ⟨vs, H1, I1, r1, hz, q1⟩ => ⟨I1.kIn, ?_⟩) he hpl
  obtain ⟨nm, q, N, bs, bm, sn, sub, ab, col, dd, k0, k1, k2, k3, k5, hC, hbm⟩ := T.cls
  obtain ⟨hp, g, dr, tk, os⟩ := s1
  generalize ew : hp.objs.size + 1 = w at *
  have lw : hp.objs.size ≤ w := by omega
  have fresh : H1 w = none := I1.hok.fresh lw
  have hq := q1 w fresh
  rw [List.append_nil] at hq
  have sz : us.length ≤ sizeLine := sz_of (by rw [← Paired.length r1]; omega)
  have grow : ∀ b o, hp.get? b = some o → ((hp.push (PySem.W.kdv_tup us)).push (PySem.HandSPX.excO C hp.objs.size)).get? b = some o := fun b o z => Heap.get?_push_of_some _ (Heap.get?_push_of_some _ z)
  have at_w : ((hp.push (PySem.W.kdv_tup us)).push (PySem.HandSPX.excO C hp.objs.size)).get? w = some (PySem.HandSPX.excO C hp.objs.size) := by
    subst ew
    heap_get
  have I2 := I1.laid (t' := tk) (a := w) (o := exo w C none) (h' := (hp.push (PySem.W.kdv_tup us)).push (PySem.HandSPX.excO C hp.objs.size)) grow lw (exo_ok at_w)
  have rv2 : Vals (V.ref w :: vs) (Value.ref w :: us) := .cons rfl r1
  have many : (Value.ref w :: us ++ []).length = ps.length := by
    rw [List.append_nil, ← rv2.length]
    exact F1.len _ _ _ _ hq
  have b2 := hb _ (Value.ref w :: us) I2.kIn many
  rw [List.append_nil] at b2
  have go := F1.run _ X.stack _ _ ⟨Value.ref w :: us, []⟩ (Value.ref w :: us) _ _ (fun _ _ _ => False) (hr.make C us []) (I2.env0.make C us []) b2 rv2 hq
  subst ew
  refine wpAny_call (PySem.HandSPX.call_own F.excBase_ValueError (fun Y => PySem.HandSPX.refsVE_contains Y bm hbm) (I1.kIn _ _ hC) (PySem.W.looks_findIn I1.kIn iC) (fun self => PySem.W.bind_fn I1.kIn self tI) sz (codeAny_mono go fun r s' z => ?_))
  match r, z with
  | .error er, z => exact hx pins σ _ _ er s' I2 z
  | .ok (.ret u), z =>
    obtain ⟨v, H2, os2, bare2, un2, hok2, rv, ev, d, fs, ea, ed, hd1, q2⟩ := z
    subst ev
    obtain ⟨h2, g2, d2, t2, os'⟩ := s'
    obtain ⟨t0, G, J, kG, ge, hoe, na⟩ := mk_end0 (d2 := d2) (t2 := t2) I1 lw grow un2 hok2 os2 bare2 ea ed hd1
    exact ⟨rv, _, _, _, ⟨G, g2, d2, t2, os'⟩, _, .ref C, some d, rfl, J, kG, ge, hoe, ⟨rfl, rfl, fun vs hv => by cases hv; rfl⟩, rfl, rfl, na, rfl, bare2, raises_own T.exC T.tyC, q2⟩
end
end Oh
namespace Oh
open PySem PySem.Spec PyProof.Rows L2 Evl
section
variable {K : PySem.W.Frag} {cl : Cl} {S S1 : List Sl}
/-- f'a{e}b', e a whole number -/
noncomputable def tF3 (a b : Str) (te : TE) : TE := fun σ H Q => tJs [tC (.str a), tFmt te, tC (.str b)] Str.empty σ H fun out H1 => Q (.str out) H1
theorem pe_f3 {X : Cx} {a b : Str} {e : Expr} {te : TE} {j1 j2 : Nat} {p1 p2 p3 pos : Pos} (he : PE X e te) : PE X (.JoinedStr [.Constant (.str a) j1 p1, .FormattedValue e (-1) none p2, .Constant (.str b) j2 p3] pos) (tF3 a b te) := pe_joined (.cons pe_str (.cons (pe_fmt he) (.cons pe_str .nil)))
end
end Oh
namespace Oh
open PySem PySem.Spec PyProof.Rows L2 Evl
/-! ### raise X(e), X with an __init__ that says super().__init__(..), self.at = at -/
noncomputable def spBad (C : Addr) : Sp := fun vs H Q _ => ∃ (a : Addr) (n : Int), vs = [.ref a, .int n] ∧ (0 ≤ n ∧ n < 1000000) ∧ H a = some (exo a C none) ∧ ∀ dx, H dx = none → dx ≠ a → Q .non (upd (upd H dx (exd dx [(("at" : Str), .int n)])) a (exo a C (some dx)))
section
variable {K : PySem.W.Frag} {cl : Cl} {H0 : Hp} {S S1 : List Sl} {te : TE} {m : Option D} {E : XK} {β : Type}
noncomputable def tRaiseO (C : Addr) (ta : TA) (E : XK) : TS := fun _ σ H => tMkO C (spBad C) [] ta σ H fun cls d H' => E cls d H'
theorem ps_raiseO {X : Cx} {x : Str} {C fI : Addr} {k : Nat} {fd : FuncData} {ps : List Str} {e : Expr} {ta : TA} {E : XK} {p pos pos2 : Pos} (hc : X.calm = true) (tk : L2N.Takes X (fun cls d _ H => E cls d H)) (T : OexC X.K C) (iC : PySem.W.findIn X.K (.ref C) "__init__" = some (some (.ref fI))) (tI : PySem.W.typeIn X.K (.ref fI) = some (.type "function"))
    (F1 : FnOk X.prog X.w X.K X.mg X.base CX0 k fI fd ps (spBad C)) (hr : Room (k + 1) X.A) (hb : Binds X.K fd ps []) (hg : Gl X x) (hm : X.mg x = some (.ref C)) (ha : PA X [e] ta)
    (hdb : (x == ("__debug__" : Str)) = false := by decide) (he : starEach [e] X.env = (false, eval e X.env) :: starEach [] X.env := by rfl) :
    PS X (.Raise (some (.Call (.Name x p) [e] [] pos)) none pos2) (tRaiseO C ta E) :=
  L2N.ps_raise hc tk (pmk_oexN T iC tI F1 hr hb (fun _ _ _ _ _ _ _ h => h.elim) hg hm ha hdb he rfl)
noncomputable def errI (k : Nat) : D → Rs β | .int n => if 0 ≤ n ∧ n < 1000000 then some (.error (.fl k n)) else none | _ => none
theorem sve_raiseO {kc : Nat} {post : β → List Sl} (h : EV K cl te S m S1) : SVE K cl H0 E (tRaiseO (cl.c kc) (tCons te tNil) E) S (m.bind (errI kc)) post := fun B G H σ I hB r e Dn q => by
  obtain ⟨d, ed, e⟩ := bind_some e
  obtain ⟨n, rfl, hn, rfl⟩ : ∃ n, d = .int n ∧ (0 ≤ n ∧ n < 1000000) ∧ r = .error (.fl kc n) := by
    cases d with
    | int n =>
      have e : (if 0 ≤ n ∧ n < 1000000 then (some (.error (.fl kc n)) : Rs β) else none) = some r := e
      split at e
      · rename_i hn; cases e; exact ⟨n, rfl, hn, rfl⟩
      · cases e
    | _ => cases e
  refine h B G H σ I _ ed _ fun v G1 H1 I1 g1 h1 rv => ?_
  cases rv
  refine ⟨by show 1 ≤ 1000; decide, fun a ha => ⟨a, n, rfl, hn, upd_same, fun dx hdx hne => ?_⟩⟩
  have hd1 : H1 dx = none := by rwa [upd_ne hne] at hdx
  refine ⟨rfl, dx, [(("at" : Str), .int n)], upd_same, by rw [upd_ne hne, upd_same], hd1, ?_⟩
  have eq : upd (del (upd (upd (upd H1 a (exo a (cl.c kc) none)) dx (exd dx [(("at" : Str), .int n)])) a (exo a (cl.c kc) (some dx))) a) dx (.xd [(("at" : Str), .int n)]) = upd H1 dx (.xd [(("at" : Str), .int n)]) := funext fun b => by
    by_cases z : b = dx
    · subst z; rw [upd_same, upd_same]
    · rw [upd_ne z, upd_ne z]
      by_cases y : b = a
      · subst y; rw [del_same, ha]
      · rw [del_ne y, upd_ne y, upd_ne z, upd_ne y]
  rw [eq]
  exact q G1 H1 dx I1.nxt hd1
/-- if c: raise .. -/
theorem sve_ifraise {tc : TT} {t : TS} {mc : Option Bool} {mx : Rs Unit} (hc : ET K cl tc S mc S1) (hx : SVE K cl H0 E t S1 mx (fun _ => S1)) : SVE K cl H0 E (tIfS tc (tSeq t tNever) tNext) S (mc.bind fun c => if c = true then mx.bind fun r => (match r with | .ok _ => none | .error x => some (.error x)) else some (.ok ())) (fun _ => S1) := fun B G H σ I hB r e Dn q => by
  obtain ⟨c, ec, e⟩ := bind_some e
  refine hc B G H σ I c ec _ fun G1 H1 I1 _ _ => ?_
  cases c with
  | true =>
    rw [if_pos rfl] at e ⊢
    obtain ⟨r0, e0, e⟩ := bind_some e
    cases r0 with
    | ok _ => cases e
    | error x =>
      cases e
      exact hx B G1 H1 σ I1 hB _ e0 _ q
  | false =>
    rw [if_neg (by decide)] at e ⊢
    cases e
    exact q σ G1 H1 I1
end
/-! ### its __init__ -/
section
open NdefX
variable {P : Program} {w : World} {K : PySem.W.Frag} {mg : Str → Option Value} {base : Heap} {NFn : NF} {f cc C : Addr} {k : Nat} {doc pm ctv oc : Value} {od : Option Addr} {osl : Array (Option Value)}
noncomputable def badC (t1 t2 : Str) (j1 j2 : Nat) (p0 p1 apos pos q1 q2 q3 q4 q5 : Pos) : Expr := .Call (.Attribute (.Call (.Name "super" p0) [] [] p1) "__init__" apos) [.JoinedStr [.Constant (.str t1) j1 q1, .FormattedValue (.Name "at" q2) (-1) none q3, .Constant (.str t2) j2 q4] q5] [] pos
theorem bad_fn {t1 t2 : Str} {j1 j2 : Nat} {p0 p1 apos pos epos q1 q2 q3 q4 q5 r1 r2 r3 r4 : Pos} (S : NScope ["self", "at", "__class__"] ["self", "at"] ["__class__"] NFn.scope) (hcl : NFn.cl = [(("__class__" : Str), cc)]) (lk : K.lookup f = some ⟨oc, od, .func (NFn.fd doc pm ctv), osl⟩) (hcd : PySem.W.codeIn K (.ref NFn.c) NFn.qual = true)
    (hbody : NFn.body = [.Expr (badC t1 t2 j1 j2 p0 p1 apos pos q1 q2 q3 q4 q5) epos, .Assign [.Attribute (.Name "self" r1) "at" r2] (.Name "at" r3) r4])
    (lcc : ∃ cl cld csl, K.lookup cc = some ⟨cl, cld, .cell (some (.ref C)), csl⟩) (T : OexC K C) (hat : PySem.W.findIn K (.ref C) "at" = some none) (hl1 : t1.length ≤ 900) (hl2 : t2.length ≤ 90)
    (hpc : ∀ L, (backTo pos (starEach ([] : List Expr) (envF NFn f L))).any (·.1) = false)
    (hsw : ∀ L, swapsWith (badC t1 t2 j1 j2 p0 p1 apos pos q1 q2 q3 q4 q5) none epos.line (envF NFn f L) = pure false)
    (hsw2 : ∀ L, swapsWith (.Name "at" r3) (some (.Attribute (.Name "self" r1) "at" r2)) r4.line (envF NFn f L) = pure false)
    (hint : ∀ L, interactive (envF NFn f L) = false)
    (hev : ∀ L, ∃ pl : Sem Bool, eval (badC t1 t2 j1 j2 p0 p1 apos pos q1 q2 q3 q4 q5) (envF NFn f L) = (do
          let ov ← attributeBase (.Call (.Name "super" p0) [] [] p1) "__init__" (envF NFn f L) (eval (.Call (.Name "super" p0) [] [] p1) (envF NFn f L))
          standAt apos.atName
          let (fx, first) ← holding [ov] (getMethod ov "__init__" pl)
          callWith pos fx first (backTo pos (starEach [.JoinedStr [.Constant (.str t1) j1 q1, .FormattedValue (.Name "at" q2) (-1) none q3, .Constant (.str t2) j2 q4] q5] (envF NFn f L))) []))
    (SF : ∀ (A : Around) (outer : List Env) (s : Shared) (H : Hp) (E : XK), SupF (ncx CX0 P w K mg base ["self", "at", "__class__"] NFn f A outer s H E) f NFn.c cc C (NFn.fd doc pm ctv)) :
    FnOk P w K mg base CX0 (k + 1) f (NFn.fd doc pm ctv) ["self", "at"] (spBad C) := by
  refine super_fn (N := ["self", "at", "__class__"]) S hcl lk hcd hbody lcc rfl (fun vs H Q E h => ?_) (fun A outer s H vs Q E hr h => ⟨SF A outer s H E, ?_⟩)
  · obtain ⟨a, n, rfl, _⟩ := h; rfl
  · obtain ⟨a, n, rfl, hn, ha, q⟩ := h
    have vs0 : Vis NFn.scope "self" := .inl (S.par _ (by simp))
    have vs1 : Vis NFn.scope "at" := .inl (S.par _ (by simp))
    refine ⟨_, _, pa_cons (pe_f3 (pv 1 (hv := vs1))) pa_nil, pss_cons (ps_ost (pv 0 (hv := vs0)) (pv 1 (hv := vs1)) (hsw2 _)) pss_nil, rfl, hpc _, hsw _, hint _, hev _, ?_⟩
    refine ⟨a, rfl, ha, T, ?_⟩
    have hnl : (toString n : Str).length ≤ 6 := PyProof.Rows.toString_length_le hn.1 (by decide) (by rw [show (10 : Int) ^ 6 = 1000000 by decide]; exact hn.2)
    have l0 : (Str.empty : Str).length = 0 := rfl
    have L1 : (Str.empty ++ t1 : Str).length ≤ 900 := by rw [Str.length_append]; omega
    have L2 : (Str.empty ++ t1 ++ (toString n : Str) : Str).length ≤ 906 := by rw [Str.length_append]; omega
    have L3 : (Str.empty ++ t1 ++ (toString n : Str) ++ t2 : Str).length ≤ 1000 := by rw [Str.length_append]; omega
    refine ⟨t1, rfl, sz_of (by omega), .int n, rfl, .inr ⟨n, rfl, ?_, _, rfl, sz_of (by omega), t2, rfl, sz_of (by omega), ?_⟩⟩
    · rcases Nat.eq_zero_or_pos n.natAbs with z | z
      · rw [z]; decide
      · have : n.natAbs.log2 < 20 := (Nat.log2_lt (by omega)).mpr (by omega)
        omega
    refine ⟨by show 1 ≤ 1000; decide, ha, .int n, rfl, .ref a, rfl, a, C, rfl, T, hat, .inl ⟨ha, fun dx h1 h2 => q dx h1 h2⟩⟩
end
end Oh
namespace Oh
open PySem PySem.Spec PyProof.Rows L2 Evl
/-- what raise BadText(e) asks of the program -/
structure BadC (P : Program) (w : World) (K : PySem.W.Frag) (mg : Str → Option Value) (base : Heap) (C fI : Addr) (fdI : FuncData) : Prop where
  T : OexC K C
  iC : PySem.W.findIn K (.ref C) "__init__" = some (some (.ref fI))
  tI : PySem.W.typeIn K (.ref fI) = some (.type "function")
  ok : FnOk P w K mg base CX0 1 fI fdI ["self", "at"] (spBad C)
  bd : Binds K fdI ["self", "at"] []
  mg : mg "BadText" = some (.ref C)
theorem clsB_ok {K : PySem.W.Frag} {C : Addr} (h : clsB K C = true) : ∃ nm q N bs bm sn sub ab col dd k0 k1 k2 k3 k5, K.lookup C = some (excClassObj nm q C N bs bm true sn sub ab col dd k0 k1 k2 k3 k5 "ValueError.__new__") ∧ PySem.HandSPX.refsVE bm = true := by
  unfold clsB at h
  split at h
  · rename_i dd cd sl ho
    split at h
    · rename_i C' b0 a b c d k0 k1 k2 k3 n k5 hm hs
      simp only [Bool.and_eq_true, beq_iff_eq, Bool.not_eq_true'] at h
      obtain ⟨⟨⟨⟨rfl, rfl⟩, hdel⟩, hdct⟩, ⟨⟨rfl, rfl⟩, rfl⟩, rfl⟩ := h
      obtain ⟨nm, bs, mro, ns, qn, hd, sn, sub, ab, col, del⟩ := cd
      dsimp only at hm hdel hdct
      subst hm hdel hdct
      have hsl : sl = #[k0, k1, k2, k3, some (.builtin "ValueError.__new__"), k5] := by
        obtain ⟨l⟩ := sl
        simp only at hs
        rw [hs]
      subst hsl
      exact ⟨nm, qn, ns, bs, _, sn, sub, ab, col, dd, k0, k1, k2, k3, k5, ho, rfl⟩
    · cases h
  · cases h
theorem oexB_ok {K : PySem.W.Frag} {C : Addr} (h : oexB K C = true) : OexC K C := by
  obtain ⟨h1, h⟩ := He.ba h
  obtain ⟨h2, h⟩ := He.ba h
  obtain ⟨h3, h⟩ := He.ba h
  obtain ⟨h4, h5⟩ := He.ba h
  exact ⟨clsB_ok h1, He.eqO_ok h2, of_decide_eq_true h3, of_decide_eq_true h4, h5⟩
theorem xfX_ok {K : PySem.W.Frag} {x : Str} (h : xfX K x = true) : XfC K (He.ga K x) := by
  obtain ⟨h1, h⟩ := He.ba h
  obtain ⟨h2, h⟩ := He.ba h
  obtain ⟨h3, h4⟩ := He.ba h
  exact ⟨He.eqO_ok h1, He.eqO_ok h2, of_decide_eq_true h3, h4⟩
theorem fnB_ok {K : PySem.W.Frag} {f C : Addr} {x qual file : Str} {ar : Arguments} {bd : List Stmt} {sc : Scope} (h : fnB K f C qual file = true) {p : Str × Option Str} (hp : He.fAd K p = f) (hz : HkL.fnZ K p = HkL.mkZ x qual ar bd sc) :
    ∃ cc cda doc pm ctv oc od osl, K.lookup f = some ⟨oc, od, .func (NdefX.NF.fd ⟨x, qual, ar, bd, sc, [("__class__", cc)], cda⟩ doc pm ctv), osl⟩ ∧ PySem.W.codeIn K (.ref cda) qual = true ∧
      (∃ cl cld csl, K.lookup cc = some ⟨cl, cld, .cell (some (.ref C)), csl⟩) ∧ (∃ ccl cdd vs ccs tf, K.lookup cda = some ⟨ccl, cdd, .fields vs, ccs⟩ ∧ vs[2]? = some (.str file tf)) := by
  subst hp
  unfold fnB at h
  unfold HkL.fnZ at hz
  cases q : K.lookup (He.fAd K p) with
  | none => rw [q] at h; cases h
  | some o =>
    obtain ⟨oc, od, dt, osl⟩ := o
    rw [q] at h hz
    cases dt with
    | func fd =>
      obtain ⟨n1, n2, n3, n4, n5, n6, n7, n8, n9, n10, n11, n12, n13, n14, n15⟩ := fd
      have hz : (some (n1, n2, n3, n4, n5, n6, n7.map (·.1), n15) : HkL.FnZ) = HkL.mkZ x qual ar bd sc := hz
      simp only [Option.some.injEq, Prod.mk.injEq] at hz
      obtain ⟨h1, h2, h3, h4, h5, h6, h7, h8⟩ := hz
      subst h1 h2 h3 h4 h5 h6 h8
      dsimp only at h
      split at h
      · rename_i c0 cc cda
        obtain rfl : c0 = "__class__" := by simpa using h7
        obtain ⟨k1, k⟩ := He.ba h
        obtain ⟨k2, k3⟩ := He.ba k
        refine ⟨cc, cda, n10, n11, n14, oc, od, osl, rfl, k1, ?_, ?_⟩
        · split at k2
          · rename_i cl cld C' csl ec
            exact ⟨cl, cld, csl, by rw [ec, beq_iff_eq.mp k2]⟩
          · cases k2
        · split at k3
          · rename_i ccl cdd vs ccs ec
            split at k3
            · rename_i g tf eg
              exact ⟨ccl, cdd, vs, ccs, tf, ec, by rw [eg, beq_iff_eq.mp k3]⟩
            · cases k3
          · cases k3
      · cases h
    | _ => cases h
/-- BadText, by what the head says -/
theorem badC_of {P : Program} {w : World} {K : PySem.W.Frag} {mg : Str → Option Value} {base : Heap} {st : Stmt} {qual file : Str} {t1 t2 : Str} {j1 j2 : Nat} {p0 p1 apos pos epos q1 q2 q3 q4 q5 r1 r2 r3 r4 : Pos}
    (hz : HkL.fnZ K ("BadText", some "__init__") = HkL.mkZ "__init__" qual (defArgs st) (defBody st) (defScope st)) (hb : badB K "BadText" qual file = true) (hmg : mg "BadText" = some (.ref (He.ga K "BadText"))) (hsu : mg "super" = none)
    (S : NdefX.NScope ["self", "at", "__class__"] ["self", "at"] ["__class__"] (defScope st))
    (hbody : defBody st = [.Expr (badC t1 t2 j1 j2 p0 p1 apos pos q1 q2 q3 q4 q5) epos, .Assign [.Attribute (.Name "self" r1) "at" r2] (.Name "at" r3) r4]) (hl1 : t1.length ≤ 900) (hl2 : t2.length ≤ 90)
    (hbi : ∀ cc cda doc pm ctv us, us.length = 2 → bindArgs (NdefX.NF.fd ⟨"__init__", qual, defArgs st, defBody st, defScope st, [("__class__", cc)], cda⟩ doc pm ctv) ⟨us, []⟩ = pure ((["self", "at"] : List Str).zip us))
    (hh : ∃ ar, ((defArgs st).posonlyargs ++ (defArgs st).args).head? = some ar ∧ ar.arg = ("self" : Str)) (hfile : ((P.main.file : Str) == file) = true) (htop : (P.main.scope.names.lookup ("super" : Str)).isSome = false)
    (ks : (defScope st).names.lookup ("super" : Str) = some .globalImplicit)
    (hpc : ∀ cc cda f L, (backTo pos (starEach ([] : List Expr) (NdefX.envF ⟨"__init__", qual, defArgs st, defBody st, defScope st, [("__class__", cc)], cda⟩ f L))).any (·.1) = false)
    (hsw : ∀ cc cda f L, swapsWith (badC t1 t2 j1 j2 p0 p1 apos pos q1 q2 q3 q4 q5) none epos.line (NdefX.envF ⟨"__init__", qual, defArgs st, defBody st, defScope st, [("__class__", cc)], cda⟩ f L) = pure false)
    (hsw2 : ∀ cc cda f L, swapsWith (.Name "at" r3) (some (.Attribute (.Name "self" r1) "at" r2)) r4.line (NdefX.envF ⟨"__init__", qual, defArgs st, defBody st, defScope st, [("__class__", cc)], cda⟩ f L) = pure false)
    (hint : ∀ cc cda f L, interactive (NdefX.envF ⟨"__init__", qual, defArgs st, defBody st, defScope st, [("__class__", cc)], cda⟩ f L) = false)
    (hev : ∀ cc cda f L, ∃ pl : Sem Bool, eval (badC t1 t2 j1 j2 p0 p1 apos pos q1 q2 q3 q4 q5) (NdefX.envF ⟨"__init__", qual, defArgs st, defBody st, defScope st, [("__class__", cc)], cda⟩ f L) = (do
          let ov ← attributeBase (.Call (.Name "super" p0) [] [] p1) "__init__" (NdefX.envF ⟨"__init__", qual, defArgs st, defBody st, defScope st, [("__class__", cc)], cda⟩ f L) (eval (.Call (.Name "super" p0) [] [] p1) (NdefX.envF ⟨"__init__", qual, defArgs st, defBody st, defScope st, [("__class__", cc)], cda⟩ f L))
          standAt apos.atName
          let (fx, first) ← holding [ov] (getMethod ov "__init__" pl)
          callWith pos fx first (backTo pos (starEach [.JoinedStr [.Constant (.str t1) j1 q1, .FormattedValue (.Name "at" q2) (-1) none q3, .Constant (.str t2) j2 q4] q5] (NdefX.envF ⟨"__init__", qual, defArgs st, defBody st, defScope st, [("__class__", cc)], cda⟩ f L))) [])) :
    ∃ fdI, BadC P w K mg base (He.ga K "BadText") (He.fAd K ("BadText", some "__init__")) fdI := by
  obtain ⟨b1, hb⟩ := He.ba hb
  obtain ⟨b2, hb⟩ := He.ba hb
  obtain ⟨b3, hb⟩ := He.ba hb
  obtain ⟨b4, hb⟩ := He.ba hb
  obtain ⟨b5, hb⟩ := He.ba hb
  obtain ⟨b6, hb⟩ := He.ba hb
  obtain ⟨b7, hb⟩ := He.ba hb
  obtain ⟨b8, b9⟩ := He.ba hb
  have T := oexB_ok b1
  obtain ⟨cc, cda, doc, pm, ctv, oc, od, osl, lk, hcd, lcc, ccl, cdd, vs, ccs, tf, lc, hv⟩ := fnB_ok b2 rfl hz
  refine ⟨_, T, He.eqO_ok b7, of_decide_eq_true b8, bad_fn (k := 0) (NFn := ⟨"__init__", qual, defArgs st, defBody st, defScope st, [("__class__", cc)], cda⟩) S rfl lk hcd hbody lcc T (He.eqO_ok b9) hl1 hl2 (hpc cc cda _) (hsw cc cda _) (hsw2 cc cda _) (hint cc cda _) (hev cc cda _) (fun A outer s H E => ?_), .all fun us hl => hbi cc cda doc pm ctv us hl, hmg⟩
  exact { fu := rfl, lf := ⟨oc, od, osl, lk⟩, hp := hh, co := rfl, lc := ⟨ccl, cdd, vs, ccs, file, tf, lc, hv, hfile⟩, top := htop, cl := rfl, lcc := lcc, ks := ks, kc := S.frk _ List.mem_cons_self, ka := S.par _ List.mem_cons_self, sub := of_decide_eq_true b3, mg := hsu, opq := He.eqO_ok b4, sup := He.eqO_ok b5, isV := of_decide_eq_true b6 }
end Oh
namespace Oh
open PySem PySem.Spec PyProof.Rows L2 Evl
/-! ### isinstance of a caught exception that has a dict -/
noncomputable def rIsD (K : PySem.W.Frag) (D a dd : Addr) : List V → Hp → VK → Prop := fun xs H Q => ∃ (c : V) (cv : Value) (b : Bool) (fs : List (Str × V)), xs = [.ref a, c] ∧ (∀ u, RelV c u → u = cv) ∧ PySem.W.kitOne K (.ref D) cv = some b ∧ H dd = some (.xd fs) ∧ Q (.bl b) H
theorem call_isD {X : Cx} {a D dd : Addr} {oe : Obj} {pn : List (Addr × Obj)} (C : ExcC X.K D) (hz : Zc (.ref D) (some dd) oe) (hf : ∃ vs, oe.data = .fields vs) : CallR (X.suite a ((a, oe) :: pn)) (.builtin "isinstance") (rIsD X.K D a dd) := by
  intro pins s σ H xs us Q I r h
  obtain ⟨c, cv, b, fs, rfl, hcv, e, ed, q⟩ := h
  have hlen := r.length
  match us, r with
  | [u0, u1], .cons r0 (.cons r1 .nil) =>
    obtain rfl : u0 = Value.ref a := r0
    obtain rfl := hcv _ r1
    have ha := (I.pin (a, oe) (List.mem_append_left _ List.mem_cons_self)).1
    obtain ⟨vs, hd⟩ := hf
    have hx : ObjOk X.prog X.w H s.heap dd (.xd fs) := I.hok dd _ ed
    obtain ⟨mA, hns, hr⟩ := hx
    obtain ⟨od, ho, hl⟩ := lookIn_ns hns
    have J : PySem.W.InstAt s.heap a oe D (some od) := ⟨ha, hz.1, by unfold PySem.W.notCls; rw [hd] <;> rfl, by rw [hz.2]; exact ho⟩
    obtain ⟨cd, hc, _⟩ := PySem.W.any_some C.hd
    exact PySem.W.kia_one (PySem.W.kitx_exc (by rw [hc]; rfl) C.hg C.hk C.hs C.ha C.hn C.ht C.hm) I.kIn J e (fun z => nomatch z) fun tk => ⟨.bl b, H, I.kept (t' := tk) fun _ _ z => z, rfl, q⟩
/-! ### try: return (e0, f(..)) except C as n: the suite that asks isinstance of n, then returns (n.at, None) -/
instance ntXd {fs : List (Str × V)} : NT (.xd fs) := ⟨fun _ z => nomatch z⟩
section
variable {K : PySem.W.Frag} {cl : Cl} {C a dd : Addr} {i : Nat} {fI : List D → Option D} {c1 c2 c3 c4 : V} {v1 v2 v3 v4 : Value} {S S1 S2 : List Sl}
noncomputable abbrev tIsD (K : PySem.W.Frag) (C a dd : Addr) (i : Nat) (c : V) : TE := tCB (rIsD K C a dd) (tCons (tVar i) (tCons (tC c) tNil))
noncomputable abbrev tAt (C a dd : Addr) (i : Nat) : TE := tXf a (.ref C) (some dd) C "at" (tVar i)
noncomputable def tToldB (K : PySem.W.Frag) (cl : Cl) (C : Addr) (c1 c2 c3 c4 : V) (i : Nat) (fI : List D → Option D) (a dd : Addr) : TS :=
  tSeq (tIfS (tOr (tB (tIsD K C a dd i c1)) (tOr (tB (tIsD K C a dd i c2)) (tNot (tB (tCallS (spD K cl fI) (fun _ _ _ _ => False) (tCons (tAt C a dd i) tNil)))))) tNever tNext)
  (tSeq (tIfS (tOr (tNot (tB (tIsD K C a dd i c3))) (tNot (tB (tIsD K C a dd i c4)))) tNever tNext) (tRet (tTup (tCons (tAt C a dd i) (tCons (tC .non) tNil)))))
noncomputable def tsTold (K : PySem.W.Frag) (cl : Cl) (C : Addr) (c1 c2 c3 c4 : V) (i : Nat) (fI : List D → Option D) (a : Addr) (cls : Value) (d : Option Addr) : TS :=
  match d with
  | some dd => open Classical in if cls = .ref C then tToldB K cl C c1 c2 c3 c4 i fI a dd else tNever
  | none => tNever
theorem isD_t {c : V} {cv : Value} {b : Bool} {fs : List (Str × V)} {H : Hp} {σ : L2.St} {Q : VK} (hr : ∀ u, RelV c u → u = cv) (h : PySem.W.kitOne K (.ref C) cv = some b) (hs : σ[i]? = some (some (.ref a))) (hd : H dd = some (.xd fs)) (q : Q (.bl b) H) : tIsD K C a dd i c σ H Q :=
  ⟨.ref a, hs, ⟨c, cv, b, fs, rfl, hr, h, hd, q⟩⟩
theorem told_t {G H : Hp} {σ : L2.St} {Dn : Ends} {n : Int} (r1 : ∀ u, RelV c1 u → u = v1) (r2 : ∀ u, RelV c2 u → u = v2) (r3 : ∀ u, RelV c3 u → u = v3) (r4 : ∀ u, RelV c4 u → u = v4)
    (k1 : PySem.W.kitOne K (.ref C) v1 = some false) (k2 : PySem.W.kitOne K (.ref C) v2 = some false) (k3 : PySem.W.kitOne K (.ref C) v3 = some true) (k4 : PySem.W.kitOne K (.ref C) v4 = some true)
    (gh : Ex G H) (tab : ∀ b ∈ cl.t, GxR.TabG H b ∧ G b = none) (hs : σ[i]? = some (some (.ref a))) (hd : H dd = some (.xd [(("at" : Str), .int n)])) (hf : fI [.int n] = some (.bl true))
    (q : ∀ v G' H', Nxt G H G' H' → Rep K cl G' v (.tup [.int n, .non]) → Dn.rt v H') : tToldB K cl C c1 c2 c3 c4 i fI a dd Dn σ H := by
  refine isD_t r1 k1 hs hd ⟨false, rfl, isD_t r2 k2 hs hd ⟨false, rfl, ?_⟩⟩
  refine ⟨.ref a, hs, rfl, rfl, dd, _, .int n, rfl, hd, rfl, G, [.int n], .bl true, gh, tab, .cons .int .nil, hf, fun v G1 H1 n1 rv => ?_⟩
  cases rv
  refine ⟨true, rfl, ?_⟩
  have hd1 : H1 dd = some (.xd [(("at" : Str), .int n)]) := n1.h _ _ hd
  refine isD_t r3 k3 hs hd1 ⟨true, rfl, isD_t r4 k4 hs hd1 ⟨true, rfl, ?_⟩⟩
  refine ⟨.ref a, hs, rfl, rfl, dd, _, .int n, rfl, hd1, rfl, sz_of (by show 2 ≤ 100000; decide), fun p hp => ?_⟩
  have nx := Nxt.new (o := .tup [.int n, .non]) n1.gh hp
  exact q _ _ _ (n1.trans nx) (.tup (st_of upd_same) (.cons .int (.cons .non .nil)))
end
section
variable {K : PySem.W.Frag} {cl : Cl} {C : Addr} {i k : Nat} {fI : List D → Option D} {f : List D → Rs D} {c1 c2 c3 c4 : V} {v1 v2 v3 v4 : Value} {S S1 S2 : List Sl} {te : TE} {ta : TA} {m : Option D} {ms : Option (List D)} {u : TS} {fl : Bool} {c : Value}
end
section
variable {X : Cx} {cl : Cl} {C : Addr} {i : Nat} {fI : List D → Option D} {f : List D → Rs D} {c1 c2 c3 c4 : V} {v1 v2 v3 v4 : Value}
/-- a def that is called within a suite -/
structure ConH (P : Program) (w : World) (K : PySem.W.Frag) (cl : Cl) (mg : Str → Option Value) (base : Heap) (k : Nat) (x : Str) (f : List D → Option D) (fa : Addr) (fd : FuncData) (ps : List Str) : Prop where
  ok : L2H.FnH P w K mg base CX0 k fa fd ps (spD K cl f)
  mg : mg x = some (.ref fa)
  kp : PySem.W.keepIn K (.ref fa) = true
  bd : Binds K fd ps []
noncomputable abbrev isiE (n x : Str) (p1 p2 p3 p4 : Pos) : Expr := .Call (.Name "isinstance" p1) [.Name n p2, .Name x p3] [] p4
theorem fun_conH {P : Program} {w : World} {K : PySem.W.Frag} {mg : Str → Option Value} {base : Heap} {qual x : Str} {st : Stmt} {fa gc : Addr} {fd : FuncData} {N ps : List Str} {k n : Nat} {f : List D → Option D}
    (F : FunC K x qual st fa fd gc) (SC : FnScope N ps (defScope st)) (hn : ps.length = n) (ar : ∀ ds d, f ds = some d → ds.length = n) (hm : mg x = some (.ref fa)) (hb : Binds K fd ps [])
    (body : ∀ (A : Around) (outer : List Env) (s : Shared) (H : Hp) (E : XK) (p : Addr × Obj), L2H.Hot1 A p → L2H.RoomH k (A.deeper (envOfC qual (defScope st) s.heap.objs.size fa (.ref gc))) →
      ∃ t, PSs (L2H.cxH CX0 P w K mg base N qual (defScope st) fa (.ref gc) A outer s H E p) (defBody st) t ∧ ∀ ds : List D, ds.length = n → TV K cl t (ds.map .vl ++ List.replicate (N.length - n) .jk) true (f ds)) : ConH P w K cl mg base (k + 1) x f fa fd ps := by
  obtain ⟨oc, od, kV, doc, pm, an, ct, osl, rfl, lk, hcd⟩ := F.ex
  refine ⟨L2H.fn_ofH lk hcd SC (fun vs H Q E h => ?_) fun A outer s H vs Q E p hot hr h => ?_, hm, F.kp, hb⟩
  · obtain ⟨G, ds, d, _, _, rs, e, _⟩ := h
    rw [rs.length, ar ds d e, hn]
  · obtain ⟨G, ds, d, gh, tb, rs, e, q⟩ := h
    obtain ⟨t, hp, ht⟩ := body A outer s H E p hot hr
    have hl := ar ds d e
    refine ⟨t, hp, ?_⟩
    have e0 : L2.start N vs = vs.map some ++ List.replicate (N.length - n) none := by unfold L2.start; rw [rs.length.trans hl]
    rw [e0]
    refine ht ds hl ⟨G, H⟩ G H _ ⟨Nxt.refl gh, by simp [rs.length], tb, fun _ => [], fun i s hs => ?_, fun _ _ _ _ _ _ z => nomatch z⟩ d e _ (fun v G' H' nx r => q v G' H' nx r) (fun _ hd σ' G' H' nx => by subst hd; exact q .non G' H' nx .non)
    obtain ⟨o, h1, h2⟩ := slot_start rs hs
    refine ⟨o, h1, ?_⟩
    rcases h2 with rfl | ⟨v, d', rfl, rfl, rv⟩
    · rfl
    · exact ⟨rfl, v, rfl, rv⟩
end
end Oh
namespace Oh
open PySem PySem.Spec PyProof.Rows L2 Evl
/-- a method, a def that changes its first argument, as a function of its arguments -/
noncomputable def own0E (f : D → Rs (D × D)) (d : D) : List D → Rs (D × D) | [] => f d | _ => none
noncomputable def own1E (f : D → D → Rs (D × D)) (d : D) : List D → Rs (D × D) | [a] => f d a | _ => none
noncomputable def on1E (f : D → Rs D) : List D → Rs D | [a] => f a | _ => none
theorem arE1 {f : D → Rs D} : ∀ ds r, on1E f ds = some r → ds.length = 1 := fun ds r h => match ds, h with | [_], _ => rfl
noncomputable def raiseIf (m : Option Bool) (mx : Rs Unit) : Rs Unit := m.bind fun c => if c = true then mx.bind fun r => (match r with | .ok _ => none | .error x => some (.error x)) else some (.ok ())
theorem takesN0 {X : Cx} : L2N.Takes X (fun _ _ _ _ => False) := fun _ _ ⟨_, _, _, _, _, _, _, _, _, _, _, _, _, _, _, _, w⟩ => w.elim
end Oh
namespace Oh
open PySem PySem.Spec PyProof.Rows L2 Evl
noncomputable def own0N (f : D → Rs D) (d : D) : List D → Rs D | [] => f d | _ => none
noncomputable def tk1 (ft : D → D → Rs (D × D)) (rd : D) (ma : Option D) : Rs (D × D) := (dMt 0 "take" rd).bind fun y => (ma.bind fun x => (some []).bind fun xs => some (x :: xs)).bind fun xs => own1E ft y xs
noncomputable def ti1 (fi : D → D → Rs (D × D)) (rd : D) (ma : Option D) : Rs (D × D) := (dMt 0 "take_index" rd).bind fun y => (ma.bind fun x => (some []).bind fun xs => some (x :: xs)).bind fun xs => own1E fi y xs
noncomputable def fn1 (fF : D → List D → Rs (D × D)) (rd : D) : Rs (D × D) := (dMt 0 "finish" rd).bind fun y => (some []).bind fun xs => fF y xs
section
variable {K : PySem.W.Frag} {cl : Cl} {H0 : Hp} {B : Bs} {S S1 : List Sl} {t : TS} {E : XK} {β : Type} {xa : Addr} {fs : Str → Sh}
variable {P : Program} {w : World} {mg : Str → Option Value} {base : Heap} {mn x qual : Str} {st : Stmt} {fa gc : Addr} {fd : FuncData} {N ps : List Str} {k c : Nat} {nn : Nat}
/-- a body that falls off its end -/
noncomputable def QVN (K : PySem.W.Frag) (cl : Cl) (xa : Addr) (fs : Str → Sh) (H0 : Hp) (E : XK) (t : TS) (S : List Sl) (m : Rs D) : Prop := ∀ (B : Bs) (G H : Hp) (σ : L2.St), Sig K cl B G H S σ → B.H = H0 → ∀ r, m = some r → ∀ Dn : Ends,
  (match r with | .ok d => ∀ G' H' S' σ', Sig K cl B G' H' S' σ' → S'[0]? = some (.ow (.j (some xa) fs) d) → Dn.nx σ' H' | .error x => XW cl B E x) → t Dn σ H
theorem sve_flat {m : Rs β} {post : β → List Sl} (h : SVE K cl H0 E t S m post) : SVE K cl H0 E (tSeq t tNext) S m post := fun B G H σ I hB r e Dn q => h B G H σ I hB r e { Dn with nx := tNext Dn } (by cases r <;> exact q)
theorem qvn_end {mb : Rs β} {post : β → List Sl} {ob : β → D} (h : SVE K cl H0 E t S mb post) (h0 : ∀ b, (post b)[0]? = some (.ow (.j (some xa) fs) (ob b))) : QVN K cl xa fs H0 E t S (thenR mb fun b => some (.ok (ob b))) := fun B G H σ I hB r e Dn q => by
  rcases thenR_some e with ⟨b, eb, e⟩ | ⟨x, ex, rfl⟩
  · cases e
    exact h B G H σ I hB _ eb _ fun σ' G' H' I' => q G' H' _ σ' I' (h0 b)
  · exact h B G H σ I hB _ ex _ q
theorem ownN_ok {f : D → List D → Rs D}
    (F : FunC K x qual st fa fd gc) (SC : FnScope N ps (defScope st)) (hn : ps.length = nn + 1) (ar : ∀ d ds r, f d ds = some r → ds.length = nn)
    (body : ∀ (A : Around) (outer : List Env) (s : Shared) (H : Hp) (E : XK), Room k (A.deeper (envOfC qual (defScope st) s.heap.objs.size fa (.ref gc))) →
      ∃ t, PSs (cxOf (L2N.CX P w) P w K mg base N qual (defScope st) fa (.ref gc) A outer s H E) (defBody st) t ∧ ∀ (xa : Addr) (H0 : Hp) (d : D) (ds : List D), ds.length = nn →
        QVN K cl xa fs H0 E t (.ow (.j (some xa) fs) d :: (ds.map .vl ++ List.replicate (N.length - (nn + 1)) .jk)) (f d ds)) : FnOk P w K mg base (L2N.CX P w) (k + 1) fa fd ps (spOE K cl fs fun d ds => thenR (f d ds) fun d' => some (.ok (.non, d'))) := by
  obtain ⟨oc, od, kV, doc, pm, an, ct, osl, rfl, lk, hcd⟩ := F.ex
  have ar' : ∀ d ds r, (thenR (f d ds) fun d' => some (.ok (D.non, d'))) = some r → ds.length = nn := fun d ds r e => by
    rcases thenR_some e with ⟨b, eb, _⟩ | ⟨x, ex, _⟩
    · exact ar _ _ _ eb
    · exact ar _ _ _ ex
  refine fn_of lk hcd SC (fun vs H Q E h => ?_) fun A outer s H vs Q E hr h => ?_
  · obtain ⟨G, x, vs', d, ds, A, r, rfl, _, _, _, _, _, rs, e, _⟩ := h
    rw [List.length_cons, rs.length, ar' d ds _ e, hn]
  · obtain ⟨G, x, vs', d, ds, A0, r, rfl, gh, tb, ow, nd, gA, rs, e, q⟩ := h
    obtain ⟨t, hp, ht⟩ := body A outer s H E hr
    have hl := ar' d ds _ e
    have hv : vs'.length = nn := rs.length.trans hl
    obtain ⟨p, rfl⟩ : ∃ p, x = .ref p := by obtain ⟨p, _, _, _, _, _, h1, _⟩ := ow; exact ⟨p, h1⟩
    refine ⟨t, hp, ?_⟩
    have e0 : L2.start N (.ref p :: vs') = some (.ref p) :: (vs'.map some ++ List.replicate (N.length - (nn + 1)) none) := by unfold L2.start; rw [List.length_cons, hv]; rfl
    rw [e0]
    rcases thenR_some e with ⟨b, eb, e⟩ | ⟨x, ex, rfl⟩
    · cases e
      refine ht p (cutA H A0) d ds hl ⟨G, cutA H A0⟩ G H _ (start_own gh tb ow nd gA rs) rfl _ eb _ fun G' H' S' σ' I' h0 => ?_
      obtain ⟨v1, A1, hσ, ow1, nd1, out1, _⟩ := I'.thru h0
      have ev : v1 = .ref p := by obtain ⟨p', _, _, _, _, _, h1, hpo, _⟩ := ow1; rw [h1, hpo p rfl]
      subst ev
      refine q .non G' H' A1 I'.nxt ow1.none_ nd1 (fun a ha => ⟨(out1 a ha).1, ?_⟩) .non
      have := (out1 a ha).2
      by_cases z : a ∈ A0
      · exact .inl z
      · rw [show (⟨G, cutA H A0⟩ : Bs).H a = H a from cutA_out z] at this; exact .inr this
    · exact ht p (cutA H A0) d ds hl ⟨G, cutA H A0⟩ G H _ (start_own gh tb ow nd gA rs) rfl _ ex _ q
end
end Oh
namespace Oh
open PySem PySem.Spec PyProof.Rows L2 Evl
section
variable {K : PySem.W.Frag} {cl : Cl} {S S1 S2 : List Sl} {te : TE} {ts : List TE} {m : Option D} {ms : Option (List Str)}
/-! ### f'..{e}..{e}..' -/
noncomputable def dFmt : D → Option Str
  | .str z => if z.length ≤ 100000 then some z else none
  | .int i => if i.natAbs.log2 < 1920 then some (toString i) else none
  | _ => none
noncomputable def EJ (K : PySem.W.Frag) (cl : Cl) (ts : List TE) (S : List Sl) (m : Option (List Str)) (S' : List Sl) : Prop := ∀ (B : Bs) (G H : Hp) (σ : L2.St), Sig K cl B G H S σ → ∀ ys, m = some ys → ∀ (acc : Str) (R : Str → Hp → Prop), acc.length + (ys.map (·.length)).sum ≤ 100000 →
  (∀ G' H', Sig K cl B G' H' S' σ → Ex G G' → Ex2 H H' → R (ys.foldl (· ++ ·) acc) H') → tJs ts acc σ H R
theorem ej_nil : EJ K cl [] S (some []) S := fun B G H σ I ys e acc R _ q => by
  cases e
  exact q G H I (Ex.refl _) (Ex2.refl _)
theorem ej_lit {a : Str} (h : EJ K cl ts S ms S1) : EJ K cl (tC (.str a) :: ts) S (ms.map (a :: ·)) S1 := fun B G H σ I ys e acc R hl q => by
  obtain ⟨zs, ez, rfl⟩ := Option.map_eq_some_iff.mp e
  rw [List.map_cons, List.sum_cons] at hl
  exact ⟨a, rfl, sz_of (by rw [Str.length_append]; omega), h B G H σ I zs ez (acc ++ a) R (by rw [Str.length_append]; omega) q⟩
theorem ej_fmt (he : EV K cl te S m S1) (h : EJ K cl ts S1 ms S2) : EJ K cl (tFmt te :: ts) S (m.bind fun d => (dFmt d).bind fun y => ms.map (y :: ·)) S2 := fun B G H σ I ys e acc R hl q => by
  obtain ⟨d, ed, e⟩ := bind_some e
  obtain ⟨y, ey, e⟩ := bind_some e
  obtain ⟨zs, ez, rfl⟩ := Option.map_eq_some_iff.mp e
  rw [List.map_cons, List.sum_cons] at hl
  refine he B G H σ I d ed _ fun v G1 H1 I1 g1 h1 r => ?_
  have go : ∃ y', V.str y = V.str y' ∧ (acc ++ y').length ≤ sizeLine ∧ tJs ts (acc ++ y') σ H1 R := ⟨y, rfl, sz_of (by rw [Str.length_append]; omega), h B G1 H1 σ I1 zs ez (acc ++ y) R (by rw [Str.length_append]; omega) fun G' H' I' g' h' => q G' H' I' (g1.trans g') (h1.trans h')⟩
  cases r with
  | @str z =>
    simp only [dFmt] at ey
    split at ey
    · rename_i hz
      cases ey
      exact .inl ⟨_, rfl, sz_of hz, go⟩
    · cases ey
  | @int i =>
    simp only [dFmt] at ey
    split at ey
    · rename_i hz
      cases ey
      exact .inr ⟨_, rfl, hz, go⟩
    · cases ey
  | _ => cases ey
theorem ev_js (h : EJ K cl ts S ms S1) : EV K cl (fun σ H Q => tJs ts Str.empty σ H fun out H1 => Q (.str out) H1) S (ms.bind fun ys => if (ys.map (·.length)).sum ≤ 100000 then some (.str (ys.foldl (· ++ ·) Str.empty)) else none) S1 := fun B G H σ I z e Q q => by
  obtain ⟨ys, ey, e⟩ := bind_some e
  split at e
  · rename_i hl
    cases e
    exact h B G H σ I ys ey Str.empty _ (by show 0 + _ ≤ 100000; omega) fun G' H' I' g' h' => q _ G' H' I' g' h' .str
  · cases e
end
end Oh
namespace Oh
open PySem PySem.Spec PyProof.Rows L2 Evl L2N
/-! ### try: .. except c1 as n: .. except c2 as n: .. (several clauses, each with the same name) -/
noncomputable abbrev ClT : Type := Value × (Addr → Value → Option Addr → TS)
noncomputable def wAsL (K : PySem.W.Frag) (i : Nat) (W0 : WX) (De : Ends) : List ClT → WX
  | [] => W0
  | q :: r => wAs K q.1 i q.2 (wAsL K i W0 De r) De
inductive Cls (X : Cx) (n : Str) : List ExceptHandler → List ClT → Prop
  | nil : Cls X n [] []
  | cons {x : Str} {q : ClT} {st : Stmt} {sts : List Stmt} {p1 p2 : Pos} {hs : List ExceptHandler} {r : List ClT} (nm : Names X x q.1)
      (su : ∀ (a : Addr) (o : Obj) (cls : Value) (d : Option Addr) (pn : List (Addr × Obj)), Zn cls d o → (∃ vs, o.data = .fields vs) → PSs (X.suite a ((a, o) :: pn)) (st :: sts) (q.2 a cls d)) (t : Cls X n hs r) :
      Cls X n (.ExceptHandler (some (.Name x p1)) (some n) (st :: sts) p2 :: hs) (q :: r)
section
variable {X : Cx} {n : Str} {i : Nat} {body : List Stmt} {hd : ExceptHandler} {hds : List ExceptHandler} {l : List ClT} {pos : Pos} {tb : WX → TS} {W0 : WX}
theorem ps_try_asL (stk : X.stack = X.env :: X.outer) (frm : X.env.frame = some X.env.locals) (ndN : X.N.Nodup) (at_i : X.N[i]? = some n) (loc : X.env.kindOf n = some .local) (tk : L2N.Takes X W0)
    (hbody : ∀ (W : WX) (pn : List (Addr × Obj)) (xe : Value → Shared → Prop), L2N.Takes (X.tr pn xe) W → PassesOwn (model X.prog X.w) X.A X.env xe → PSs (X.tr pn xe) body (tb W))
    (cl : Cls X n (hd :: hds) l) : PS X (.Try body (hd :: hds) [] [] pos) (fun De σ H => tb (wAsL X.K i W0 De l) De σ H) := by
  constructor
  intro pp s0 σ H De I0 goal
  have okX := I0.ok
  have frames : X.A.frames = some (X.env :: X.outer) := okX.frames.trans (congrArg some stk)
  have locN : Loc X.env.scope n := .inl loc
  apply wpAny_Try_except
  have run := (hbody (wAsL X.K i W0 De l) (X.pn ++ pp) (fun e r1 => wpAny (model X.prog X.w) X.A (noteFrame e X.env) (fun _ r2 => wpAny (model X.prog X.w) X.A (setFlight e none) (fun _ r3 =>
    wpAny (model X.prog X.w) X.A (handleBy e X.env (hd :: hds)) (SP X pp De) X.xe r3) X.xe r2) X.xe r1) ?takes PassesOwn.looking).run [] s0 σ H De (I0.toTry _) goal
  case takes =>
    rintro u r ⟨a, B, sI, pins0, ρ, Hx, cls, d, rfl, Jt, nb, up, sky, na, os, ag, wish⟩
    have J0 : Inv X pp ρ Hx sI := Jt.ofTry okX
    rw [show (X.tr (X.pn ++ pp) _).stack = X.env :: X.outer from stk] at sky
    show wpAny (model X.prog X.w) X.A (noteFrame (.ref a) X.env) _ _ _
    refine L2N.Sky.land L2N.Zn.steady frames frm sky fun g3 f3 u3 => ?_
    have J3 : Inv X pp ρ Hx { r with heap := g3 } := J0.landed nb f3.1 (up.trans u3) os ag
    obtain ⟨o3, xs3, at3, z3, dat3⟩ := f3.there
    have apart : a ∉ frs (X.env :: X.outer) := fun m => by
      obtain ⟨_, o', e', other⟩ := f3.2.2.1.mem m
      cases at3.symm.trans e'
      exact other _ dat3
    have aL : a ≠ X.env.locals := fun z => apart (List.mem_filterMap.mpr ⟨X.env, List.mem_cons_self, frm.trans (congrArg some z.symm)⟩)
    have aF : a ∉ X.fs := fun m => by
      obtain ⟨e, m1, m2⟩ := List.mem_filterMap.mp m
      exact apart (List.mem_filterMap.mpr ⟨e, List.mem_cons_of_mem _ m1, m2⟩)
    have T3 := J3.suite at3 dat3 na aL aF
    have walk : ∀ {hs : List ExceptHandler} {r0 : List ClT}, Cls X n hs r0 → wAsL X.K i W0 De r0 cls d ρ Hx → wpAny (model X.prog X.w) X.A (handleBy (.ref a) X.env hs) (SP X pp De) X.xe { r with heap := g3 } := by
      intro hs r0 c
      induction c with
      | nil =>
        intro w
        apply wpAny_handleBy_nil
        obtain ⟨_, _, _, o5, xs5, tb5, _, _, at5, _, dat5, fld1, _⟩ := id f3
        unfold PySem.passOn
        refine wpAny_bind (wpAny_field at5 dat5 fld1 ?_)
        rw [if_neg (show ¬ (Value.ref tb5 == Value.none) = true from by simp)]
        have onward : wpAny (model X.prog X.w) X.A (setFlight (.ref a) X.env.frame) (fun _ r4 => wpAny (model X.prog X.w) X.A (throw (.ref a) : Sem Flow) (SP X pp De) X.xe r4) X.xe { r with heap := g3 } := by
          rw [frm]
          refine PySem.HandSPX.setFlight_upZ f3 fun g4 here u4 => wpAny_throw (tk _ _ ?_)
          exact ⟨a, B, sI, pp, ρ, Hx, cls, d, rfl, J0, nb, (up.trans u3).trans u4, .inr (.inr (by rw [stk]; exact here)), na, os, ag, w⟩
        first
          | exact wpAny_bind (wpAny_pure (wpAny_bind onward))
          | exact wpAny_bind onward
      | @cons x q st sts p1 p2 hs2 r2 nm su t ih =>
        rintro ⟨b, eb, yes, no⟩
        refine wpAny_handleBy_cons (codeAny_handlers_test ?_) (fun z => nomatch z)
        have ty : PySem.W.Looks (model X.prog X.w) g3 (typeOf (.ref a)) cls := fun A Q E s k w => wpAny_typeOf_ref (k _ _ at3) (by rw [z3.1]; exact w)
        have match_ := PySem.W.exm_one (M := model X.prog X.w) J3.kIn ty eb
        have name : ∀ {Q : Value → Shared → Prop} {E : Value → Shared → Prop}, Q q.1 { r with heap := g3 } → wpAny (model X.prog X.w) (X.A.mark (some (.ref a))) (eval (.Name x p1) X.env) Q E { r with heap := g3 } := fun {Q E} w => by
          obtain ⟨g, db, y | ⟨y1, y2, y3⟩⟩ := nm
          · exact ld_glob (X := X.suite a ((a, o3) :: (X.pn ++ pp))) T3 g y w db
          · exact ld_blt (X := X.suite a ((a, o3) :: (X.pn ++ pp))) T3 g y1 y2 w y3 db
        refine name (match_.here ?_)
        cases b with
        | false =>
          show wpAny _ X.A (handleBy (.ref a) X.env hs2) _ _ _
          exact ih (no rfl)
        | true =>
          apply codeAny_handlers_suite_as
          refine PySem.HandSPX.lands_againZ f3 fun g4 f4 u4 => ?_
          have J4 : Inv X pp ρ Hx { r with heap := g4 } := J0.landed nb f4.1 ((up.trans u3).trans u4) os ag
          obtain ⟨o4, xs4, at4, z4, dat4⟩ := f4.there
          have T4 := J4.suite at4 dat4 na aL aF
          refine store_ok (X := X.suite a ((a, o4) :: (X.pn ++ pp))) (v := .ref a) T4 ndN at_i locN rfl (fun s5 T5 => ?_) (.inr loc)
          refine wpAny_mono ((su a o4 cls d (X.pn ++ pp) z4 ⟨_, dat4⟩).run [] s5 _ Hx _ T5 (yes rfl a na)) (fun fl s6 w6 => ?_) (fun _ _ z => z.elim)
          have gone : ∀ {ρ6 : L2.St} {H6 : Hp} {Q : Shared → Prop}, Inv (X.suite a ((a, o4) :: (X.pn ++ pp))) [] ρ6 H6 s6 → (∀ s7, Inv X pp (ρ6.set i none) H6 s7 → Q s7) →
              wpAny (model X.prog X.w) X.A (do bindName X.env n .none; unbindBehindTheSuite X.env n p2) (fun _ s7 => Q s7) X.xe s6 := fun {ρ6 H6 Q} T6 w => gone_ok (T6.unsuite okX) ndN at_i loc w
          cases fl with
          | ret u =>
            obtain ⟨v6, ρ6, H6, T6, rv6, w⟩ := w6
            exact gone T6 fun s7 J7 => ⟨_, _, _, J7, rv6, w⟩
          | next =>
            obtain ⟨ρ6, H6, T6, w⟩ := w6
            exact gone T6 fun s7 J7 => ⟨_, _, J7, w⟩
          | brk =>
            obtain ⟨ρ6, H6, T6, w⟩ := w6
            exact gone T6 fun s7 J7 => ⟨_, _, J7, w⟩
          | cont =>
            obtain ⟨ρ6, H6, T6, w⟩ := w6
            exact gone T6 fun s7 J7 => ⟨_, _, J7, w⟩
    exact walk cl wish
  refine wpAny_mono run (fun fl s1 w1 => ?_) (fun _ _ z => z)
  cases fl with
  | next =>
    obtain ⟨ρ, Hx, Jt, w⟩ := w1
    exact wpAny_execs_nil ⟨ρ, Hx, Jt.ofTry okX, w⟩
  | brk =>
    obtain ⟨ρ, Hx, Jt, w⟩ := w1
    exact ⟨ρ, Hx, Jt.ofTry okX, w⟩
  | cont =>
    obtain ⟨ρ, Hx, Jt, w⟩ := w1
    exact ⟨ρ, Hx, Jt.ofTry okX, w⟩
  | ret u =>
    obtain ⟨v, ρ, Hx, Jt, rv, w⟩ := w1
    exact ⟨v, ρ, Hx, Jt.ofTry okX, rv, w⟩
end
end Oh
namespace Oh
open PySem PySem.Spec PyProof.Rows L2 Evl
/-! ### raise X(e), X without an __init__ of its own -/
section
variable {K : PySem.W.Frag} {cl : Cl} {H0 : Hp} {S S1 : List Sl} {te : TE} {m : Option D} {E : XK} {β : Type}
/-- what an exception class without an __init__ of its own is known by -/
structure PlC (K : PySem.W.Frag) (mg : Str → Option Value) (x : Str) (C : Addr) : Prop where
  exc : PySem.W.excIn K C [.type "ValueError", .type "Exception", .type "BaseException", .type "object"] "ValueError.__new__" = true
  kp : PySem.W.keepIn K (.ref C) = true
  sub : PySem.W.subIn K (.ref C) (.type "BaseException") = some true
  ty : PySem.W.typeIn K (.ref C) = some (.type "type")
  mg : mg x = some (.ref C)
noncomputable def tRaiseN (C : Addr) (ta : TA) (E : XK) : TS := fun _ σ H => ta σ H fun vs H1 => vs.length ≤ 1000 ∧ E (.ref C) none H1
theorem pmkN_arg {X : Cx} {x : Str} {C : Addr} {e : Expr} {ta : TA} {p pos : Pos} (T : PlC X.K X.mg x C) (hg : Gl X x) (ha : PA X [e] ta) (hdb : (x == ("__debug__" : Str)) = false) (hst : starEach [e] X.env = (false, eval e X.env) :: starEach [] X.env) (hpl : (backTo pos (starEach ([] : List Expr) X.env)).any (·.1) = false) :
    L2N.PMk X (.Call (.Name x p) [e] [] pos) (fun σ H Q => ta σ H fun vs H1 => vs.length ≤ 1000 ∧ Q (.ref C) none H1) := by
  intro pp s0 ρ Hx Q I goal
  refine wpAny_Call_Name_kw (ld_glob I hg T.mg ?_ hdb)
  refine PySem.W.callWith_K (h₀ := X.base) I.ok.mod.kin T.kp (thn (ha.run pos pp s0 ρ Hx _ I goal) fun us s1 ⟨vs, H1, I1, r1, hz, q1⟩ => ⟨I1.kIn, ?_⟩) hst hpl
  show wpAny _ _ (call (.ref C) us) _ _ _
  have sz : us.length ≤ sizeLine := sz_of (by rw [← Paired.length r1]; omega)
  obtain ⟨_, _, _, _, _, _, _, _, _, _, _, _, _, _, _, _, _, c1, c2, c3, c4⟩ := exc_obj I1.kIn T.exc
  exact wpAny_call_exc_subT PySem.F.excBase_ValueError c4 c1 c2 c3 (fun h' e made => L2N.mk_of I1 made (raises_own T.sub T.ty) q1 (I1.hok.gone made.new)) sz
theorem ps_raiseN {X : Cx} {x : Str} {C : Addr} {e : Expr} {ta : TA} {p pos pos2 : Pos} (hc : X.calm = true) (tk : L2N.Takes X (fun cls d _ H => E cls d H)) (T : PlC X.K X.mg x C) (hg : Gl X x) (ha : PA X [e] ta) (hdb : (x == ("__debug__" : Str)) = false := by decide) (hst : starEach [e] X.env = (false, eval e X.env) :: starEach [] X.env := by rfl) (hpl : (backTo pos (starEach ([] : List Expr) X.env)).any (·.1) = false := by rfl) :
    PS X (.Raise (some (.Call (.Name x p) [e] [] pos)) none pos2) (tRaiseN C ta E) := L2N.ps_raise hc tk (pmkN_arg T hg ha hdb hst hpl)
theorem sve_raiseN {kn : Nat} {post : β → List Sl} (h : EV K cl te S m S1) : SVE K cl H0 E (tRaiseN (cl.c kn) (tCons te tNil) E) S (m.bind fun _ => some (.error (.pl kn))) post := fun B G H σ I hB r e Dn q => by
  obtain ⟨d, ed, e⟩ := bind_some e
  cases e
  exact h B G H σ I d ed _ fun v G1 H1 I1 g1 h1 rv => ⟨by show 1 ≤ 1000; decide, q G1 H1 I1.nxt⟩
end
/-! ### try: return (e0, f(..)) except c1 as n: .. except c2 as n: .. -/
section
variable {K : PySem.W.Frag} {cl : Cl} {C a : Addr} {i kb kn : Nat} {fI : List D → Option D} {f : List D → Rs D} {c1 c2 c3 c4 : V} {v1 v2 v3 v4 : Value} {S S1 S2 : List Sl} {te te2 : TE} {ta : TA} {m : Option D} {ms : Option (List D)} {u : TS} {fl : Bool}
noncomputable abbrev tIsN (K : PySem.W.Frag) (C a : Addr) (i : Nat) (c : V) : TE := tCB (rIsE K C a) (tCons (tVar i) (tCons (tC c) tNil))
noncomputable def tPlB (K : PySem.W.Frag) (C : Addr) (c1 c2 : V) (i : Nat) (te2 : TE) (a : Addr) : TS :=
  tSeq (tIfS (tOr (tB (tIsN K C a i c1)) (tNot (tB (tIsN K C a i c2)))) tNever tNext) (tRet (tTup (tCons te2 (tCons (tC .non) tNil))))
noncomputable def tsPl (K : PySem.W.Frag) (C : Addr) (c1 c2 : V) (i : Nat) (te2 : TE) (a : Addr) (cls : Value) (d : Option Addr) : TS :=
  match d with
  | none => open Classical in if cls = .ref C then tPlB K C c1 c2 i te2 a else tNever
  | some _ => tNever
theorem pl_t {G H : Hp} {σ : L2.St} {Dn : Ends} (r1 : ∀ u, RelV c1 u → u = v1) (r2 : ∀ u, RelV c2 u → u = v2) (k1 : PySem.W.kitOne K (.ref C) v1 = some false) (k2 : PySem.W.kitOne K (.ref C) v2 = some true) (h2 : ∀ (σ : L2.St) (H : Hp) (Q : VK), Q (.int (-2)) H → te2 σ H Q)
    (gh : Ex G H) (hs : σ[i]? = some (some (.ref a))) (q : ∀ v G' H', Nxt G H G' H' → Rep K cl G' v (.tup [.int (-2), .non]) → Dn.rt v H') : tPlB K C c1 c2 i te2 a Dn σ H := by
  have isN : ∀ {c : V} {cv : Value} {b : Bool} {H : Hp} {Q : VK}, (∀ u, RelV c u → u = cv) → PySem.W.kitOne K (.ref C) cv = some b → Q (.bl b) H → tIsN K C a i c σ H Q := fun hr h q => ⟨.ref a, hs, ⟨_, _, _, rfl, hr, h, q⟩⟩
  refine isN r1 k1 ⟨false, rfl, isN r2 k2 ⟨true, rfl, ?_⟩⟩
  refine h2 _ _ _ ⟨sz_of (by show 2 ≤ 100000; decide), fun p hp => ?_⟩
  have nx := Nxt.new (o := .tup [.int (-2), .non]) gh hp
  exact q _ _ _ nx (.tup (st_of upd_same) (.cons .int (.cons .non .nil)))
noncomputable def tTold4 (K : PySem.W.Frag) (cl : Cl) (i : Nat) (f : List D → Rs D) (l : List ClT) (te : TE) (ta : TA) : TS := fun De σ H => tRet (tTup (tCons te (tCons (tCallS (spE K cl f) (WE (wAsL K i (fun _ _ _ _ => False) De l)) ta) tNil))) De σ H
noncomputable def toldR4 (kb kn : Nat) (x : D) : Except Xd D → Option D
  | .ok d => some (.tup [x, d])
  | .error (.fl k' n) => if k' = kb then some (.tup [.int n, .non]) else none
  | .error (.pl k') => if k' = kn then some (.tup [.int (-2), .non]) else none
theorem tv_told4 {d1 d2 : V} {w1 w2 : Value} (hi : i < S2.length) (hBB : PySem.W.exmOne K (.ref (cl.c kb)) (.ref (cl.c kb)) = some true) (hNB : PySem.W.exmOne K (.ref (cl.c kn)) (.ref (cl.c kb)) = some false) (hNN : PySem.W.exmOne K (.ref (cl.c kn)) (.ref (cl.c kn)) = some true)
    (r1 : ∀ u, RelV c1 u → u = v1) (r2 : ∀ u, RelV c2 u → u = v2) (r3 : ∀ u, RelV c3 u → u = v3) (r4 : ∀ u, RelV c4 u → u = v4) (r5 : ∀ u, RelV d1 u → u = w1) (r6 : ∀ u, RelV d2 u → u = w2)
    (k1 : PySem.W.kitOne K (.ref (cl.c kb)) v1 = some false) (k2 : PySem.W.kitOne K (.ref (cl.c kb)) v2 = some false) (k3 : PySem.W.kitOne K (.ref (cl.c kb)) v3 = some true) (k4 : PySem.W.kitOne K (.ref (cl.c kb)) v4 = some true)
    (k5 : PySem.W.kitOne K (.ref (cl.c kn)) w1 = some false) (k6 : PySem.W.kitOne K (.ref (cl.c kn)) w2 = some true) (h2 : ∀ (σ : L2.St) (H : Hp) (Q : VK), Q (.int (-2)) H → te2 σ H Q)
    (hI : ∀ n : Int, fI [.int n] = some (.bl true)) (he : EV K cl te S m S1) (ha : EA K cl ta S1 ms S2) :
    TV K cl (tSeq (tTold4 K cl i f [(.ref (cl.c kb), tsTold K cl (cl.c kb) c1 c2 c3 c4 i fI), (.ref (cl.c kn), tsPl K (cl.c kn) d1 d2 i te2)] te ta) u) S fl (m.bind fun x => ms.bind fun ds => (f ds).bind (toldR4 kb kn x)) := fun B G H σ I d e Dn q _ => by
  obtain ⟨x, ex, e⟩ := bind_some e
  obtain ⟨ds, eds, e⟩ := bind_some e
  obtain ⟨r, er, e⟩ := bind_some e
  refine he B G H σ I x ex _ fun v0 G0 H0 I0 g0 h0 rv0 => ?_
  refine ha B G0 H0 σ I0 ds eds _ fun vs G1 H1 I1 g1 h1 rs => ⟨G1, ds, r, I1.nxt.gh, I1.tab, rs, er, ?_⟩
  have hl : i < σ.length := by rw [I1.len]; exact hi
  cases r with
  | ok d' =>
    cases e
    refine fun v G2 H2 n2 rv => ⟨sz_of (by show 2 ≤ 100000; decide), fun p hp => ?_⟩
    have nx := Nxt.new (o := .tup [v0, v]) n2.gh hp
    exact q _ _ _ (I1.nxt.trans (n2.trans nx)) (.tup (st_of upd_same) (.cons (rv0.mono (g1.trans (n2.g.trans nx.g))) (.cons (rv.mono nx.g) .nil)))
  | error xd =>
    cases xd with
    | pl k' =>
      have e : (if k' = kn then some (D.tup [.int (-2), .non]) else none) = some d := e
      by_cases hk : k' = kn
      · rw [if_pos hk] at e
        cases e
        subst hk
        intro G2 H2 n2
        refine ⟨false, hNB, fun z => (nomatch z), fun _ => ⟨true, hNN, fun _ a ha => ?_, fun z => (nomatch z)⟩⟩
        show tsPl K (cl.c k') d1 d2 i te2 a (.ref (cl.c k')) none _ _ _
        unfold tsPl
        dsimp only
        rw [if_pos rfl]
        exact pl_t r5 r6 k5 k6 h2 n2.gh (List.getElem?_set_self hl) fun v G3 H3 n3 rv => q _ _ _ (I1.nxt.trans (n2.trans n3)) rv
      · rw [if_neg hk] at e; cases e
    | fl k' n =>
      have e : (if k' = kb then some (D.tup [.int n, .non]) else none) = some d := e
      by_cases hk : k' = kb
      · rw [if_pos hk] at e
        cases e
        subst hk
        intro G2 H2 dx n2 hdx
        have nx := Nxt.lay (o := .xd [(("at" : Str), .int n)]) n2.gh hdx
        refine ⟨true, hBB, fun _ a ha => ?_, fun z => nomatch z⟩
        show tsTold K cl (cl.c k') c1 c2 c3 c4 i fI a (.ref (cl.c k')) (some dx) _ _ _
        unfold tsTold
        dsimp only
        rw [if_pos rfl]
        refine told_t r1 r2 r3 r4 k1 k2 k3 k4 (n2.trans nx).gh (fun b hb => (n2.trans nx).tab (I1.tab b hb)) (List.getElem?_set_self hl) upd_same (hI n) fun v G3 H3 n3 rv => ?_
        exact q _ _ _ (I1.nxt.trans ((n2.trans nx).trans n3)) rv
      · rw [if_neg hk] at e; cases e
end
section
variable {X : Cx} {cl : Cl} {C CN : Addr} {i : Nat} {fI : List D → Option D} {f : List D → Rs D} {c1 c2 c3 c4 d1 d2 : V} {te2 : TE}
theorem suite_told {kI : Nat} {gn n x1 x2 x3 x4 : Str} {ga : Addr} {gd : FuncData} {qs : List Str} {s1 s2 : List Stmt} {P11 P12 P13 P14 P21 P22 P23 P24 P31 P32 P33 P34 P41 P42 P43 P44 : Pos} {j tk1 : Nat} {q0 a1 a2 n1 n2 cp u1 u2 u3 b1 b2 i1 i2 rp tp cp0 : Pos}
    (hi : X.N[i]? = some n) (hvis : Vis X.env.scope n) (hdn : (n == ("__debug__" : Str)) = false) (hcn : (n == ("__classdict__" : Str)) = false) (gi : Gl X "isinstance") (mi : X.mg "isinstance" = none) (EC : ExcC X.K C) (XC : XfC X.K C) (hat : PySem.W.findIn X.K (.ref C) "at" = some none)
    (FI : ConH X.prog X.w X.K cl X.mg X.base kI gn fI ga gd qs) (hrI : Room kI X.A) (gg : Gl X gn) (hdg : (gn == ("__debug__" : Str)) = false)
    (h1 : ∀ a pn p, PE (X.suite a pn) (.Name x1 p) (tC c1)) (h2 : ∀ a pn p, PE (X.suite a pn) (.Name x2 p) (tC c2)) (h3 : ∀ a pn p, PE (X.suite a pn) (.Name x3 p) (tC c3)) (h4 : ∀ a pn p, PE (X.suite a pn) (.Name x4 p) (tC c4))
    (a : Addr) (oe : Obj) (cls : Value) (d : Option Addr) (pn : List (Addr × Obj)) (hz : L2N.Zn cls d oe) (hd : ∃ vs, oe.data = .fields vs) :
    PSs (X.suite a ((a, oe) :: pn)) [.If (.BoolOp .Or [isiE n x1 P11 P12 P13 P14, isiE n x2 P21 P22 P23 P24, .UnaryOp .Not (.Call (.Name gn q0) [.Attribute (.Name n n1) "at" a1] [] cp) u1] b1) s1 [] i1,
       .If (.BoolOp .Or [.UnaryOp .Not (isiE n x3 P31 P32 P33 P34) u2, .UnaryOp .Not (isiE n x4 P41 P42 P43 P44) u3] b2) s2 [] i2,
       .Return (some (.Tuple [.Attribute (.Name n n2) "at" a2, .Constant .none j cp0] tk1 tp)) rp] (tsTold X.K cl C c1 c2 c3 c4 i fI a cls d) := by
  unfold tsTold
  cases d with
  | none => exact pss_never
  | some dd =>
    dsimp only
    by_cases h : cls = .ref C
    · rw [if_pos h]
      subst h
      have zc := hz.zc
      have hot : L2H.HotC (X.suite a ((a, oe) :: pn)) := by
        obtain ⟨vs, hv⟩ := hd
        exact ⟨(a, oe), ⟨rfl, vs, hv, hz.2.2 vs hv⟩, List.mem_cons_self⟩
      have nm : ∀ {p : Pos}, PE (X.suite a ((a, oe) :: pn)) (.Name n p) (tVar i) := fun {p} => pe_var (X := X.suite a ((a, oe) :: pn)) hi hvis hdn hcn
      have one : ∀ {y : Str} {v : V} {P1 P2 P3 P4 : Pos}, (∀ p, PE (X.suite a ((a, oe) :: pn)) (.Name y p) (tC v)) → PE (X.suite a ((a, oe) :: pn)) (isiE n y P1 P2 P3 P4) (tIsD X.K C a dd i v) := fun {y v P1 P2 P3 P4} g =>
        pe_callB (X := X.suite a ((a, oe) :: pn)) (call_isD EC zc hd) gi mi isi_boot (pa_cons nm (pa_cons (g _) pa_nil))
      have atE : ∀ {p1 p2 : Pos}, PE (X.suite a ((a, oe) :: pn)) (.Attribute (.Name n p1) "at" p2) (tAt C a dd i) := fun {p1 p2} => pe_xf XC hat zc hd nm
      have call : ∀ {p1 p2 p3 p4 : Pos}, PE (X.suite a ((a, oe) :: pn)) (.Call (.Name gn p1) [.Attribute (.Name n p2) "at" p3] [] p4) (tCallS (spD X.K cl fI) (fun _ _ _ _ => False) (tCons (tAt C a dd i) tNil)) := fun {p1 p2 p3 p4} =>
        L2H.pe_callH (X := X.suite a ((a, oe) :: pn)) FI.ok (L2H.roomH_mark hrI _) hot gg FI.mg FI.kp FI.bd (fun _ _ _ _ _ _ _ z => z.elim) (pa_cons atE pa_nil) hdg
      refine pss_cons (ps_if (PW.pt (pw_or (pt_val (one (h1 a _))) (pw_or (pt_val (one (h2 a _))) (pw_or1 (pt_not (pt_val call)))))) pss_never pss_nil) (pss_cons (ps_if (PW.pt (pw_or (pt_not (pt_val (one (h3 a _)))) (pw_or1 (pt_not (pt_val (one (h4 a _))))))) pss_never pss_nil) (pss_one (ps_ret (pe_tup (pa_cons atE (pa_cons pe_non pa_nil))))))
    · rw [if_neg h]; exact pss_never
theorem suite_pl {n x1 x2 : Str} {s1 : List Stmt} {P11 P12 P13 P14 P21 P22 P23 P24 : Pos} {j tk1 : Nat} {u1 b1 i1 rp tp cp0 : Pos} {e2 : Expr}
    (hi : X.N[i]? = some n) (hvis : Vis X.env.scope n) (hdn : (n == ("__debug__" : Str)) = false) (hcn : (n == ("__classdict__" : Str)) = false) (gi : Gl X "isinstance") (mi : X.mg "isinstance" = none) (EC : ExcC X.K C)
    (h1 : ∀ a pn p, PE (X.suite a pn) (.Name x1 p) (tC c1)) (h2 : ∀ a pn p, PE (X.suite a pn) (.Name x2 p) (tC c2)) (he2 : ∀ a pn, PE (X.suite a pn) e2 te2)
    (hst : starEach [e2, .Constant .none j cp0] X.env = (false, eval e2 X.env) :: starEach [.Constant .none j cp0] X.env)
    (a : Addr) (oe : Obj) (cls : Value) (d : Option Addr) (pn : List (Addr × Obj)) (hz : L2N.Zn cls d oe) (hd : ∃ vs, oe.data = .fields vs) :
    PSs (X.suite a ((a, oe) :: pn)) [.If (.BoolOp .Or [isiE n x1 P11 P12 P13 P14, .UnaryOp .Not (isiE n x2 P21 P22 P23 P24) u1] b1) s1 [] i1, .Return (some (.Tuple [e2, .Constant .none j cp0] tk1 tp)) rp] (tsPl X.K C c1 c2 i te2 a cls d) := by
  unfold tsPl
  cases d with
  | some dd => exact pss_never
  | none =>
    dsimp only
    by_cases h : cls = .ref C
    · rw [if_pos h]
      subst h
      have nm : ∀ {p : Pos}, PE (X.suite a ((a, oe) :: pn)) (.Name n p) (tVar i) := fun {p} => pe_var (X := X.suite a ((a, oe) :: pn)) hi hvis hdn hcn
      have one : ∀ {y : Str} {v : V} {P1 P2 P3 P4 : Pos}, (∀ p, PE (X.suite a ((a, oe) :: pn)) (.Name y p) (tC v)) → PE (X.suite a ((a, oe) :: pn)) (isiE n y P1 P2 P3 P4) (tIsN X.K C a i v) := fun {y v P1 P2 P3 P4} g =>
        pe_callB (X := X.suite a ((a, oe) :: pn)) (call_isE EC hz.zc hd) gi mi isi_boot (pa_cons nm (pa_cons (g _) pa_nil))
      exact pss_cons (ps_if (PW.pt (pw_or (pt_val (one (h1 a _))) (pw_or1 (pt_not (pt_val (one (h2 a _))))))) pss_never pss_nil) (pss_one (ps_ret (pe_tup (pa_cons (hs := hst) (he2 a _) (pa_cons pe_non pa_nil)))))
    · rw [if_neg h]; exact pss_never
end
end Oh
namespace Oh
open PySem PySem.Spec PyProof.Rows L2 Evl
noncomputable def tn1 (fn : D → D → Rs (D × D)) (rd : D) (ma : Option D) : Rs (D × D) := (dMt 0 "take_name" rd).bind fun y => (ma.bind fun x => (some []).bind fun xs => some (x :: xs)).bind fun xs => own1E fn y xs
noncomputable def apR (st : D) (mb : Rs (D × D)) : Rs (D × (D × D)) := thenR mb fun b => okR ((dApp st b.1).map fun d' => (d', b))
section
variable {K : PySem.W.Frag} {cl : Cl} {H0 : Hp} {S S1 S2 : List Sl} {te ta tb : TE} {ts : TA} {m : Option D} {ms : Option (List D)} {E : XK} {β γ : Type}
/-- x = [e], e may let one out -/
theorem sve_newE {j : Nat} {mb : Rs β} {val : β → D} {post : β → List Sl} (h : EVE K cl H0 E te S mb val post) : SVE K cl H0 E (tAsg (tLst (tCons te tNil)) (gName j)) S mb (fun b => (post b).set j (.ow (.l .v) (.lst [val b]))) := fun B G H σ I hB r e Dn q => h B G H σ I hB r e _ (by
  cases r with
  | error x => exact q
  | ok b =>
    exact fun v G1 H1 I1 _ r => ⟨sz_of (by show 1 ≤ 100000; decide), fun p hp => by
      have nx := Nxt.lay (o := .lst [v]) I1.nxt.gh hp
      exact q _ G1 _ ((I1.push nx (Own.mkFlat upd_same (.cons r .nil)) (by simp) fun p' hp' => by rw [List.mem_singleton.mp hp']; exact ⟨hp, fresh_back I1.nxt.gh hp⟩).take j)⟩)
noncomputable def chkR (fs : Str → Sh) : Except Xd (D × D) → Rs (D × D)
  | .ok r => if flatB r.1 = true ∧ Oh.flo (.j none fs) r.2 = true then some (.ok r) else none
  | .error x => some (.error x)
/-- a method that changes its object and may let one out, an own list lent to it -/
theorem eve_methL {i k c : Nat} {mn : Str} {po : Option Addr} {fs : Str → Sh} {shk : Sh} {d dk : D} {f : D → List D → Rs (D × D)} (h0 : S[i]? = some (.ow (.j po fs) d)) (hk : S[k]? = some (.ow shk dk)) (ne : k ≠ i) (ha : EA K cl ts (S.set k (.vl dk)) ms (S.set k (.vl dk))) :
    EVE K cl H0 E (tMeth (cl.c c) mn (spOE K cl fs f) [] E (tVar i) ts) S (((dMt c mn d).bind fun x => ms.bind fun xs => f x xs).bind (chkR fs)) (·.1) (fun r => S.set i (.ow (.j po fs) r.2)) := fun B G H σ I hB r e Q q => by
  obtain ⟨r0, er, e⟩ := bind_some e
  obtain ⟨x, ex, e1⟩ := bind_some er
  obtain ⟨xs, exs, e3⟩ := bind_some e1
  obtain ⟨v, A, hσ, ow, _, _, _⟩ := I.thru h0
  obtain ⟨p, dx, c', vs, ds, A', rfl, _, rfl, hp, _, of⟩ := ow
  have e2 : (if c' = c ∧ ds.lookup mn = none then some (D.ob c' ds) else none) = some x := ex
  by_cases hc : c' = c ∧ ds.lookup mn = none
  · rw [if_pos hc] at e2
    cases e2
    obtain ⟨rfl, hn⟩ := hc
    refine ⟨.ref p, hσ, p, dx, vs, rfl, hp, of.none hn, ?_⟩
    obtain ⟨v0, G1, hσk, g1, r1, I1, inG⟩ := I.share2 hk
    refine ha B G1 H σ I1 xs exs _ fun us G2 H2 I2 g2 h2 rs => ?_
    have g12 := g1.trans g2
    have I4 := I.lendT hk I2 g12 h2
    have h1 : (S.set k (.vl dk))[i]? = some (.ow (.j po fs) (.ob c' ds)) := by rw [List.getElem?_set_ne ne]; exact h0
    obtain ⟨v1, A1, hσ1, ow1, nd1, out1, _⟩ := I2.thru h1
    rw [hσ] at hσ1; cases hσ1
    obtain ⟨v4, A4, hσ4, ow4, nd4, out4, cls⟩ := I4.thru h0
    rw [hσ] at hσ4; cases hσ4
    have eA : A1 = A4 := Own.det I2.nxt.gh I4.nxt.gh ow1 ow4
    subst eA
    refine ⟨G2, .ref p, us, _, xs, A1, r0, by rw [List.append_nil], I2.nxt.gh, I2.tab, ow1.none_, nd1, fun a ha => (out1 a ha).1, rs, e3, ?_⟩
    cases r0 with
    | error y =>
      cases e
      obtain ⟨v3, A3, hσ3, ow3, _, _, clsJ⟩ := I2.thruJ h1
      rw [hσ] at hσ3; cases hσ3
      have eA : A1 = A3 := Own.det I2.nxt.gh I2.nxt.gh ow1 ow3
      subst eA
      exact XW.of (fun G' H' nx => (clsJ G' H' nx).nxt) q
    | ok r0 =>
      have e : (if flatB r0.1 = true ∧ Oh.flo (.j none fs) r0.2 = true then some (Except.ok r0) else none) = some r := e
      by_cases hf : flatB r0.1 = true ∧ Oh.flo (.j none fs) r0.2 = true
      · rw [if_pos hf] at e
        cases e
        refine fun w G' H' A2 nx o2 nd2 new rv => ?_
        have gm : Ex (mixT G G2) G' := fun a u e => nx.g a u (mixT_in g12 e)
        refine q w (mixT G G2) H' (cls (mixT G G2) H' _ _ A2 ⟨Ex.refl _, nx.h, fun a u e => nx.gh a u (gm a u e), fun _ h => .inl h⟩ (ow1.some_ (o2.flo hf.2)) nd2 fun a ha => ⟨?_, (new a ha).2⟩) mixT_ex (flatB_rep hf.1 rv)
        cases z : mixT G G2 a with
        | none => rfl
        | some u => have := gm a u z; rw [(new a ha).1] at this; cases this
      · rw [if_neg hf] at e; cases e
  · rw [if_neg hc] at e2; cases e2
end
end Oh
namespace Oh
open PySem PySem.Spec PyProof.Rows L2 Evl
section
variable {K : PySem.W.Frag} {cl : Cl} {G G' G2 H H' H1 : Hp} {B : Bs} {S S1 S2 S3 : List Sl} {σ : L2.St} {te tk ta : TE} {tt : TT} {m n : Option D} {t u : TS} {sh : Sh} {d : D} {v : V} {A : List Addr}
/-- flat parts only, tuples too -/
noncomputable def floT : Sh → D → Bool
  | .t f, d => (match d with | .tup ds => (List.range ds.length).all fun i => floT (f i) (ds.getD i .non) | _ => false)
  | .v, d => tupB d
  | .l e, d => flo (.l e) d
  | .i p, d => flo (.i p) d
  | .j p f, d => flo (.j p f) d
  | .d, d => flo .d d
theorem OwnT.flo {R R' : Nat → V → D → List Addr → Prop} {p : Nat → D → Bool} (h : ∀ n v d A, R n v d A → p n d = true → R' n v d A) : ∀ {n vs ds A}, OwnT R n vs ds A → (∀ i d, ds[i]? = some d → p (n + i) d = true) → OwnT R' n vs ds A
  | _, _, _, _, .nil, _ => .nil
  | n, _, _, _, .cons r t, e => .cons (h _ _ _ _ r (e 0 _ rfl)) (OwnT.flo h t fun i d hd => by rw [show n + 1 + i = n + (i + 1) by omega]; exact e (i + 1) d (by simpa using hd))
theorem Own.floT (g : Ex G G2) : ∀ {sh : Sh} {v : V} {d : D} {A : List Addr}, Own K cl G2 H sh v d A → Oh.floT sh d = true → Own K cl (mixT G G2) H sh v d A
  | .t f, _, _, _, ⟨p, vs, ds, e1, e2, hp, ot⟩, hb => by
    subst e2
    refine ⟨p, vs, ds, e1, rfl, ?_, OwnT.flo (p := fun i d => Oh.floT (f i) d) (fun n v d A r hd => Own.floT (sh := f n) g r hd) ot fun i d hd => ?_⟩
    · exact mixT_of g hp rfl
    · have hl : i < ds.length := (List.getElem?_eq_some_iff.mp hd).1
      have := List.all_eq_true.mp hb i (List.mem_range.mpr hl)
      rw [Nat.zero_add]
      have e : ds.getD i .non = d := by rw [List.getD_eq_getElem?_getD, hd]; rfl
      rw [e] at this
      exact this
  | .v, v, d, _, ⟨h1, h2⟩, e => ⟨h1, tup_rep g d v e h2⟩
  | .l s, _, _, _, h, e => Own.flo h e
  | .i p, _, _, _, h, e => Own.flo h e
  | .j p f, _, _, _, h, e => Own.flo h e
  | .d, _, _, _, h, e => Own.flo h e
/-! ### append to a part of a tuple whose number a name holds -/
theorem OwnT.upd {f : Nat → Sh} {p1 : Addr} {ws : List V} {w : V} {xs : List D} {y : D} : ∀ {n k : Nat} {vs : List V} {ds : List D} {A : List Addr}, OwnT (fun i => Own K cl G H (f i)) n vs ds A → A.Nodup → ds[k]? = some (.lst xs) → vs[k]? = some (.ref p1) → f (n + k) = .l .v → H p1 = some (.lst ws) → Reps K cl G ws xs → Rep K cl G w y →
    OwnT (fun i => Own K cl G (upd H p1 (.lst (ws ++ [w]))) (f i)) n vs (ds.set k (.lst (xs ++ [y]))) A
  | _, _, _, _, _, .nil, _, hd, _, _, _, _, _ => by simp at hd
  | n, 0, _, _, _, .cons r t, nd, hd, hv, hf, hp, rs, rw' => by
    cases hd
    cases hv
    rw [Nat.add_zero] at hf
    rw [hf] at r
    obtain ⟨p, vs', ds', e1, e2, h3, rfl, _⟩ := r.flat
    cases e1
    refine .cons ?_ (t.imp fun i v d A' s q => Own.step (sh := f i) (Ex.refl _) (fun q hq u _ hu => by rw [upd_ne fun z => (List.nodup_append.mp nd).2.2 p1 (List.mem_singleton.mpr rfl) q (s hq) z.symm]; exact hu) q)
    rw [hf]
    exact Own.mkFlat upd_same (rs.append (.cons rw' .nil))
  | n, k + 1, _, _, _, .cons (v := v0) (A := A0) r t, nd, hd, hv, hf, hp, rs, rw' => by
    have hf' : f (n + 1 + k) = .l .v := by rw [show n + 1 + k = n + (k + 1) by omega]; exact hf
    obtain ⟨vk, A1, e1, r1, s1⟩ := t.at (k := k) (by simpa using hd)
    have hv' := hv
    rw [List.getElem?_cons_succ, e1] at hv'
    cases hv'
    rw [hf'] at r1
    obtain ⟨_, _, _, e1, _, _, rfl, _⟩ := Own.flat r1
    cases e1
    refine .cons (Own.step (sh := f n) (Ex.refl _) (fun q hq u _ hu => by rw [upd_ne fun z => (List.nodup_append.mp nd).2.2 q hq p1 (s1 List.mem_cons_self) z]; exact hu) r) ?_
    exact OwnT.upd t (List.nodup_append.mp nd).2.1 (by simpa using hd) (by simpa using hv) hf' hp rs rw'
noncomputable def tapD (sh : Sh) (d dk y : D) : Option D := match sh, d, dk with
  | .t f, .tup ds, .int n => if 0 ≤ n then (match f n.toNat, ds[n.toNat]? with
    | .l .v, some (.lst xs) => if xs.length < 100000 then some (.tup (ds.set n.toNat (.lst (xs ++ [y])))) else none
    | _, _ => none) else none
  | _, _, _ => none
theorem tapD_ok {dk y d' : D} (h : tapD sh d dk y = some d') : ∃ f ds xs k, sh = .t f ∧ d = .tup ds ∧ dk = .int ((k : Nat) : Int) ∧ f k = .l .v ∧ ds[k]? = some (.lst xs) ∧ xs.length < 100000 ∧ d' = .tup (ds.set k (.lst (xs ++ [y]))) := by
  unfold tapD at h
  split at h
  · rename_i f ds n
    split at h
    · rename_i hn
      split at h
      · rename_i xs e1 e2
        split at h
        · rename_i hl
          cases h
          exact ⟨f, ds, xs, n.toNat, rfl, rfl, by rw [Int.toNat_of_nonneg hn], e1, e2, hl, rfl⟩
        · cases h
      · cases h
    · cases h
  · cases h
theorem sv_tappN {i j : Nat} {dk : D} (h0 : S[i]? = some (.ow sh d)) (hj : S[j]? = some (.vl dk)) (hy : EV K cl tk S n S2) (h2 : S2[i]? = some (.ow sh d)) :
    SV K cl (tDrop (tBM K "list" rAppend (tOp (rIx K) (tVar i) (tVar j)) (tCons tk tNil))) S (n.bind fun y => tapD sh d dk y) (fun d' => S2.set i (.ow sh d')) := fun B G H σ I d' e Dn q => by
  obtain ⟨y, ey, e⟩ := bind_some e
  obtain ⟨f, ds, xs, k, rfl, rfl, rfl, ef, ek, hl, rfl⟩ := tapD_ok e
  obtain ⟨v, A, hσ, ow, nd, out, _⟩ := I.opn h0
  obtain ⟨p, vs, _, rfl, ed, hp, ot⟩ := ow
  cases ed
  obtain ⟨vk, A1, e1, r1, _⟩ := ot.at ek
  rw [Nat.zero_add, ef] at r1
  obtain ⟨p1, ws, _, rfl, ed, hp1, rfl, rs1⟩ := Own.flat r1
  cases ed
  obtain ⟨vj, hσj, rj⟩ := I.vl hj
  cases rj
  refine ⟨.ref p, hσ, _, hσj, ?_⟩
  refine Or.inr (Or.inl ⟨p, vs, _, .ref p1, rfl, rfl, st_of (I.nxt.gh _ _ hp), atI_nat e1, ?_⟩)
  refine ⟨Or.inl ⟨rfl, ws, sq_of hp1⟩, ?_⟩
  refine hy B G H σ I y ey _ fun w G2 H2 I2 g2 h2' rw2 => ?_
  obtain ⟨v', A', hσ', ow', nd', out', cl'⟩ := I2.opn h2
  rw [hσ] at hσ'; cases hσ'
  obtain ⟨p', vs', _, ep, ed, hp', ot'⟩ := id ow'
  cases ep; cases ed
  rw [g2 _ _ hp] at hp'; cases hp'
  obtain ⟨vk, A2, e2, r2, s2⟩ := ot'.at ek
  rw [e1] at e2; cases e2
  rw [Nat.zero_add, ef] at r2
  obtain ⟨_, ws2, _, ep, ed, hp2, rfl, rs2⟩ := Own.flat r2
  cases ep; cases ed
  have pA : p1 ∈ A' := s2 List.mem_cons_self
  refine ⟨p1, ws2, w, rfl, rfl, hp2, sz_lt (by rw [rs2.length]; exact hl), q σ G2 _ ?_⟩
  exact cl' _ _ (fun q hq => upd_ne fun z => hq (by rw [z]; exact pA)) ⟨p, vs, _, rfl, rfl, g2 _ _ hp, OwnT.upd ot' nd' ek e1 (by rw [Nat.zero_add]; exact ef) hp2 rs2 rw2⟩
/-! ### what is handed back is not owned -/
noncomputable def vO (sh : D → Sh) (d : D) : Option D := match sh d with | .v => some d | _ => none
theorem vO_ok {sh : D → Sh} {z d : D} (h : vO sh d = some z) : z = d ∧ sh d = .v := by
  unfold vO at h
  split at h
  · rename_i e; cases h; exact ⟨rfl, e⟩
  · cases h
noncomputable def shIf (b : D → Bool) (f : Nat → Sh) : D → Sh := fun d => if b d = true then .v else .t f
theorem evd_if {b : D → Bool} {f : Nat → Sh} (h : EVD K cl (fun _ => .t f) te S m S1) : EVD K cl (shIf b f) te S (m.bind fun d => if b d = true then none else some d) S1 := fun B G H σ I z e Q q => by
  obtain ⟨d, ed, e⟩ := bind_some e
  split at e
  · cases e
  · rename_i hb
    cases e
    exact h B G H σ I z ed Q fun v G' H' I' => q v G' H' (by unfold shIf; rw [if_neg hb]; exact I')
theorem avd_retV {sh : D → Sh} (h : EV K cl te S m S1) : AVD K cl sh (tSeq (tRet te) tNever) S (m.bind (vO sh)) := fun B G H σ I d e Dn q => by
  obtain ⟨z, ez, e⟩ := bind_some e
  obtain ⟨rfl, hs⟩ := vO_ok e
  exact h B G H σ I d ez _ fun v G' H' I' _ _ r => q v [] G' H' I'.nxt (by rw [hs]; exact ⟨rfl, r⟩) .nil fun p hp => nomatch hp
noncomputable def flV {β : Type} (sh : D → Sh) (k : β → Option D) : Fl β Empty → Option D
  | .nx b => k b
  | .rt d => vO sh d
  | .bk c => nomatch c
  | .ct c => nomatch c
theorem avd_flow {β : Type} {sh : D → Sh} {mb : Option (Fl β Empty)} {post : β → List Sl} {out : Empty → List Sl} {k : β → Option D} (h : FV K cl t S mb post out) (r : ∀ b, AVD K cl sh u (post b) (k b)) : AVD K cl sh (tSeq t u) S (mb.bind (flV sh k)) := fun B G H σ I d e Dn q => by
  obtain ⟨f, ef, e⟩ := bind_some e
  refine h B G H σ I f ef { Dn with nx := u Dn } ?_
  cases f with
  | nx b => exact fun σ' G' H' I' => r b B G' H' σ' I' d e Dn q
  | rt d' =>
    obtain ⟨rfl, hs⟩ := vO_ok e
    exact fun v G' H' nx r => q v [] G' H' nx (by rw [hs]; exact ⟨rfl, r⟩) .nil fun p hp => nomatch hp
  | bk c => exact nomatch c
  | ct c => exact nomatch c
end
end Oh
namespace Oh
open PySem PySem.Spec PyProof.Rows L2 Evl
section
variable {X : Cx} {K : PySem.W.Frag} {cl : Cl} {G G' H H' : Hp} {B : Bs} {σ : L2.St} {S S1 S2 S3 : List Sl} {te ta tb : TE} {tc : TT} {m n : Option D} {mc : Option Bool}
theorem ev_lendS {i : Nat} {sh0 : Sh} {sh : D → Sh} {d0 : D} (h : S[i]? = some (.ow sh0 d0)) (he : EVD K cl sh te (S.set i (.vl d0)) m (S.set i (.vl d0))) : EV K cl te S (m.bind fun z => if floT (sh z) z = true then some z else none) S := fun B G H σ I z e Q q => by
  obtain ⟨x, ex, e⟩ := bind_some e
  split at e
  · rename_i hb
    cases e
    obtain ⟨v0, G1, hσ, g1, r1, I1, inG⟩ := I.share2 h
    refine he B G1 H σ I1 z ex _ fun v G2 H2 I2 g2 h2 => ?_
    have g12 := g1.trans g2
    have I3 := I2.cut
    have I4 := I.lendT h I3 g12 h2
    have hl : i < S.length := (List.getElem?_eq_some_iff.mp h).1
    have L : (S.set i (.vl d0)).length = S.length := List.length_set ..
    have hσl : σ.length = S.length := I.len
    obtain ⟨AA2, hs2, ap2⟩ := I2.slots
    obtain ⟨AA4, hs4, ap4⟩ := I4.slots
    obtain ⟨o, h1, v', e1, ow, nd, out⟩ := hs2 S.length (.ow (sh z) z) (by rw [List.getElem?_append_right (by rw [L]; exact Nat.le_refl _), L, Nat.sub_self]; rfl)
    rw [List.getElem?_append_right (by rw [hσl]; exact Nat.le_refl _), hσl, Nat.sub_self] at h1
    cases h1
    cases e1
    generalize hA2 : AA2 S.length = A2 at *
    have ow' := Own.floT g12 ow hb
    have mN : ∀ p ∈ A2, mixT G G2 p = none := fun p hp => by
      cases q2 : mixT G G2 p with
      | none => rfl
      | some u => have := mixT_in g12 q2; rw [(out p hp).1] at this; cases this
    have eg : Ex (mixT G G2) (fun b => if b ∈ A2 then H2 b else mixT G G2 b) := fun a u e => by
      show (if a ∈ A2 then H2 a else mixT G G2 a) = _
      rw [if_neg (fun z => by rw [mN a z] at e; cases e)]; exact e
    have dj : ∀ j s, S[j]? = some s → ∀ p ∈ AA4 j, p ∉ A2 := fun j s hj p hp hp2 => by
      have hlj : j < S.length := (List.getElem?_eq_some_iff.mp hj).1
      obtain ⟨o4, k1, k2⟩ := hs4 j s hj
      cases s with
      | jk => rw [k2] at hp; cases hp
      | vl d' => rw [k2.1] at hp; cases hp
      | ow sh' d' =>
        obtain ⟨v4, e4, ow4, nd4, out4⟩ := k2
        subst e4
        by_cases ej : j = i
        · subst ej
          rw [h] at hj; cases hj
          rw [hσ] at k1; cases k1
          obtain ⟨v5, A5, l1, l2, l3, l4, _⟩ := I.opn h
          rw [hσ] at l1; cases l1
          have e5 : AA4 j = A5 := Own.det I4.nxt.gh (mixT_ex.trans I4.nxt.gh) ow4 (l2.step (Ex.refl _) fun p hp u _ hu => h2 p u hu)
          rw [e5] at hp
          have := inG A5 l2 p hp
          cases q3 : G1 p with
          | none => exact this q3
          | some u => have := g2 p u q3; rw [(out p hp2).1] at this; cases this
        · obtain ⟨o5, l1, l2⟩ := hs2 j (.ow sh' d') (by rw [List.getElem?_append_left (by rw [L]; exact hlj), List.getElem?_set_ne (fun z => ej z.symm)]; exact hj)
          rw [List.getElem?_append_left (by rw [hσl]; exact hlj), k1] at l1
          cases l1
          obtain ⟨v5, e5, ow5, nd5, out5⟩ := l2
          cases e5
          have e6 : AA4 j = AA2 j := Own.det I4.nxt.gh I2.nxt.gh ow4 ow5
          rw [e6] at hp
          exact ap2 j S.length (by omega) (by rw [List.length_append, L]; omega) (by rw [List.length_append, L]; show S.length < S.length + 1; omega) p hp (by rw [hA2]; exact hp2)
    have I5 : Sig K cl B (fun b => if b ∈ A2 then H2 b else mixT G G2 b) H2 S σ := by
      refine ⟨⟨I4.nxt.g.trans eg, I4.nxt.h, fun a u e => ?_, fun a e => ?_⟩, I4.len, fun a ha => ⟨(I4.tab a ha).1, by show (if a ∈ A2 then H2 a else mixT G G2 a) = none; rw [if_neg (ow.noT (I4.tab a ha).1)]; exact (I4.tab a ha).2⟩, AA4, fun j s hj => ?_, ap4⟩
      · by_cases z : a ∈ A2
        · rw [if_pos z] at e; exact e
        · rw [if_neg z] at e; exact I4.nxt.gh a u e
      · by_cases z : a ∈ A2
        · exact .inr (out a z).2
        · rw [if_neg z] at e; exact I4.nxt.fr a e
      · obtain ⟨o4, k1, k2⟩ := hs4 j s hj
        refine ⟨o4, k1, ?_⟩
        have dj := dj j s hj
        cases s with
        | jk => exact k2
        | vl d' =>
          obtain ⟨ea, v, e1, r1⟩ := k2
          exact ⟨ea, v, e1, r1.mono eg⟩
        | ow sh' d' =>
          obtain ⟨v', e1, ow2, nd', out'⟩ := k2
          refine ⟨v', e1, ow2.step eg (fun p hp u _ hu => hu), nd', fun p hp => ⟨?_, (out' p hp).2⟩⟩
          show (if p ∈ A2 then H2 p else mixT G G2 p) = none
          rw [if_neg (dj p hp)]
          exact (out' p hp).1
    exact q v _ H2 I5 (mixT_ex.trans eg) h2 (ow'.rep eg fun p hp => if_pos hp)
  · cases e
theorem tve_shr {H0 : Hp} {E : XK} {t : TS} {fl : Bool} {mr : Rs D} {i : Nat} {sh : Sh} {d : D} (h : S[i]? = some (.ow sh d)) (k : TVE K cl H0 E t (S.set i (.vl d)) fl mr) : TVE K cl H0 E t S fl mr := fun B G H σ I hB r e Dn q => by
  obtain ⟨_, G1, _, _, _, I1⟩ := I.share h
  exact k B G1 H σ I1 hB r e Dn q
end
/-- what the law's reader of one variable hands back: a plain tuple, or (wrong, (name, words, heard), after) -/
noncomputable def shv2 : Nat → Sh | 1 => .l .v | 2 => .l .v | _ => .v
noncomputable def shv1 : Nat → Sh | 1 => .t shv2 | _ => .v
noncomputable def bNon : D → Bool | .tup (_ :: .non :: _) => true | _ => false
noncomputable abbrev shLv : D → Sh := shIf bNon shv1
end Oh
namespace Oh
open PySem PySem.Spec PyProof.Rows L2 Evl
noncomputable def m_law_row (script_1 : D) (place_2 : D) (many_3 : D) : Option D := ((((some (.int 7919)).bind fun t5 => (some place_2).bind fun t6 => dMul t5 t6).bind fun t7 => (some (.int 5)).bind fun t8 => dAdd t7 t8).bind fun cell_4 => ((((some place_2).bind fun t11 => (((some script_1).bind fun x_9 => (some []).bind fun xs_10 => some (x_9 :: xs_10)).bind (on1 dLen)).bind fun t12 => (dLt t11 t12).bind asB).bind fun c_13 => if c_13 = true then (((some script_1).bind fun t16 => (some place_2).bind fun t17 => dIx t16 t17).bind fun cell_15 => (some cell_15)) else (some cell_4)).bind fun s_14 => (((some s_14).bind fun t21 => ((some (.int 10)).bind fun t19 => (some (.int 18)).bind fun t20 => dPow t19 t20).bind fun t22 => dSub t21 t22).bind fun rest_18 => (((some []).bind (few .lst)).bind fun row_23 => ((((some many_3).bind dRng1).bind fun xs => forS (fun x_73 (b_24 : D × D) => (some x_73).bind fun c_25 => ((((some b_24.2).bind fun t26 => (some (.int 0)).bind fun t27 => (dGt t26 t27).bind asB).bind fun c_28 => if c_28 = true then ((((((some b_24.2).bind fun x_30 => (some []).bind fun xs_31 => some (x_30 :: xs_31)).bind (on1 dInt)).bind fun t32 => (some (.int 1000)).bind fun t33 => dMod t32 t33).bind fun t34 => dApp b_24.1 t34).bind fun row_35 => (((some b_24.2).bind fun t37 => (some (.int 1000)).bind fun t38 => dFdiv t37 t38).bind fun rest_36 => (some (row_35, rest_36)))) else ((((((((some s_14).bind fun t40 => (some (.int 48271)).bind fun t41 => dMul t40 t41).bind fun t44 => ((some c_25).bind fun t42 => (some (.int 69621)).bind fun t43 => dMul t42 t43).bind fun t45 => dAdd t44 t45).bind fun t46 => (some (.int 12345)).bind fun t47 => dAdd t46 t47).bind fun x_48 => (some []).bind fun xs_49 => some (x_48 :: xs_49)).bind (on1 dInt)).bind fun t50 => (some (.int 2147483647)).bind fun t51 => dMod t50 t51).bind fun mixed_39 => ((((((((some mixed_39).bind fun t53 => (some mixed_39).bind fun t54 => dMul t53 t54).bind fun t57 => ((some mixed_39).bind fun t55 => (some (.int 16807)).bind fun t56 => dMul t55 t56).bind fun t58 => dAdd t57 t58).bind fun t61 => ((some c_25).bind fun t59 => (some (.int 40692)).bind fun t60 => dMul t59 t60).bind fun t62 => dAdd t61 t62).bind fun x_63 => (some []).bind fun xs_64 => some (x_63 :: xs_64)).bind (on1 dInt)).bind fun t65 => (some (.int 2147483399)).bind fun t66 => dMod t65 t66).bind fun mixed_52 => (((((some mixed_52).bind fun t67 => (some (.int 64)).bind fun t68 => dFdiv t67 t68).bind fun t69 => (some (.int 1000)).bind fun t70 => dMod t69 t70).bind fun t71 => dApp b_24.1 t71).bind fun row_72 => (some (row_72, b_24.2)))))).bind fun s_29 => (some (s_29.1, s_29.2)))) xs (row_23, rest_18)).bind fun s_74 => (some s_74.1))))))
noncomputable def m_law_size (bounds_1 : D) : Option D := ((some (.int 1)).bind fun many_2 => ((((some bounds_1).bind asL).bind fun xs => forS (fun x_8 (b_3 : D) => (some x_8).bind fun c_4 => (((some b_3).bind fun t6 => (some c_4).bind fun t7 => dMul t6 t7).bind fun many_5 => (some many_5))) xs many_2).bind fun s_9 => (some s_9)))
noncomputable def m_law_count_ways (counts_1 : D) (heard_2 : D) : Option D := ((some (.int 1)).bind fun many_3 => ((((((some counts_1).bind fun x_4 => (some []).bind fun xs_5 => some (x_4 :: xs_5)).bind (on1 dLen)).bind dRng1).bind fun xs => forS (fun x_26 (b_6 : D) => (some x_26).bind fun c_7 => (((((((((some heard_2).bind fun t8 => (some c_7).bind fun t9 => dIx t8 t9).bind asL).bind fun xs => (capD xs).bind fun xs => (compD (fun x_13 => (some x_13).bind fun c_10 => (some true).bind fun b_14 => if b_14 = true then ((some counts_1).bind fun t11 => (some c_10).bind fun t12 => dIx t11 t12).map some else some none) xs).map .lst).bind fun x_15 => (some []).bind fun xs_16 => some (x_15 :: xs_16)).bind (on1 (m_law_size))).bind dRng1).bind fun xs => forS (fun x_24 (b_17 : D) => (some x_24).bind fun c_18 => (((some b_17).bind fun t22 => ((some counts_1).bind fun t20 => (some c_7).bind fun t21 => dIx t20 t21).bind fun t23 => dMul t22 t23).bind fun many_19 => (some many_19))) xs b_6).bind fun s_25 => (some s_25))) xs many_3).bind fun s_27 => (some s_27)))
noncomputable def m_law_shape (script_1 : D) (place_2 : D) (cap_3 : D) : Option D := ((((some script_1).bind fun x_9 => ((some place_2).bind fun x_7 => ((some (.int 40)).bind fun x_5 => (some []).bind fun xs_6 => some (x_5 :: xs_6)).bind fun xs_8 => some (x_7 :: xs_8)).bind fun xs_10 => some (x_9 :: xs_10)).bind (on3 (m_law_row))).bind fun row_4 => (((((some (.int 1)).bind fun x_24 => ((some (.int 2)).bind fun x_22 => ((some (.int 3)).bind fun x_20 => ((some (.int 2)).bind fun x_18 => ((some (.int 3)).bind fun x_16 => ((some (.int 4)).bind fun x_14 => ((some (.int 5)).bind fun x_12 => (some []).bind fun xs_13 => some (x_12 :: xs_13)).bind fun xs_15 => some (x_14 :: xs_15)).bind fun xs_17 => some (x_16 :: xs_17)).bind fun xs_19 => some (x_18 :: xs_19)).bind fun xs_21 => some (x_20 :: xs_21)).bind fun xs_23 => some (x_22 :: xs_23)).bind fun xs_25 => some (x_24 :: xs_25)).bind (few .lst)).bind fun t32 => (((((some row_4).bind fun t26 => (some (.int 0)).bind fun t27 => dIx t26 t27).bind fun x_28 => (some []).bind fun xs_29 => some (x_28 :: xs_29)).bind (on1 dInt)).bind fun t30 => (some (.int 7)).bind fun t31 => dMod t30 t31).bind fun t33 => dIx t32 t33).bind fun variables_11 => ((((some variables_11).bind dRng1).bind fun xs => (capD xs).bind fun xs => (compD (fun x_50 => (some x_50).bind fun c_35 => (some true).bind fun b_51 => if b_51 = true then ((some (.int 2)).bind fun t48 => ((((((((some row_4).bind fun t38 => ((some (.int 1)).bind fun t36 => (some c_35).bind fun t37 => dAdd t36 t37).bind fun t39 => dIx t38 t39).bind fun x_40 => (some []).bind fun xs_41 => some (x_40 :: xs_41)).bind (on1 dInt)).bind fun t42 => (some (.int 4)).bind fun t43 => dMod t42 t43).bind fun t44 => (some (.int 1)).bind fun t45 => dEqF t44 t45).bind fun x_46 => (some []).bind fun xs_47 => some (x_46 :: xs_47)).bind (on1 dInt)).bind fun t49 => dAdd t48 t49).map some else some none) xs).map .lst).bind fun counts_34 => ((((some variables_11).bind dRng1).bind fun xs => (capD xs).bind fun xs => (compD (fun x_71 => (some x_71).bind fun c_53 => (some true).bind fun b_72 => if b_72 = true then (((some c_53).bind dRng1).bind fun xs => (capD xs).bind fun xs => (compD (fun x_69 => (some x_69).bind fun c_54 => ((((((some row_4).bind fun t61 => (((some (.int 6)).bind fun t57 => ((some (.int 5)).bind fun t55 => (some c_53).bind fun t56 => dMul t55 t56).bind fun t58 => dAdd t57 t58).bind fun t59 => (some c_54).bind fun t60 => dAdd t59 t60).bind fun t62 => dIx t61 t62).bind fun x_63 => (some []).bind fun xs_64 => some (x_63 :: xs_64)).bind (on1 dInt)).bind fun t65 => (some (.int 3)).bind fun t66 => dMod t65 t66).bind fun t67 => (some (.int 0)).bind fun t68 => (dGt t67 t68).bind asB).bind fun b_70 => if b_70 = true then (some c_54).map some else some none) xs).map .lst).map some else some none) xs).map .lst).bind fun heard_52 => ((((some (.int 30)).bind dRng1).bind fun xs => forS (fun x_114 (b_73 : D × D) => (some x_114).bind fun c_74 => (((((((some row_4).bind fun t76 => (some (.int 31)).bind fun t77 => dIx t76 t77).bind fun t78 => (some c_74).bind fun t79 => dAdd t78 t79).bind fun x_80 => (some []).bind fun xs_81 => some (x_80 :: xs_81)).bind (on1 dInt)).bind fun t82 => (some variables_11).bind fun t83 => dMod t82 t83).bind fun v_75 => ((((((some b_73.2).bind fun x_86 => ((some b_73.1).bind fun x_84 => (some []).bind fun xs_85 => some (x_84 :: xs_85)).bind fun xs_87 => some (x_86 :: xs_87)).bind (on2 (m_law_count_ways))).bind fun t88 => (some cap_3).bind fun t89 => (dGt t88 t89).bind asB).bind fun c_90 => if c_90 = true then (((((some b_73.1).bind fun t92 => (some v_75).bind fun t93 => dIx t92 t93).bind dTru).bind fun c_94 => if c_94 = true then (((some v_75).bind fun t108 => ((((((some row_4).bind fun t98 => ((some (.int 32)).bind fun t96 => (some v_75).bind fun t97 => dAdd t96 t97).bind fun t99 => dIx t98 t99).bind fun x_100 => (some []).bind fun xs_101 => some (x_100 :: xs_101)).bind (on1 dInt)).bind fun t106 => ((((some b_73.1).bind fun t102 => (some v_75).bind fun t103 => dIx t102 t103).bind fun x_104 => (some []).bind fun xs_105 => some (x_104 :: xs_105)).bind (on1 dLen)).bind fun t107 => dMod t106 t107).bind flatD).bind fun t109 => dPop2 b_73.1 t108 t109).bind fun heard_110 => (some (heard_110, b_73.2))) else (((some (.int 2)).bind fun t111 => (some v_75).bind fun t112 => dSet b_73.2 t112 t111).bind fun counts_113 => (some (b_73.1, counts_113)))).bind fun s_95 => (some (s_95.1, s_95.2))) else (some (b_73.1, b_73.2))).bind fun s_91 => (some (s_91.1, s_91.2))))) xs (heard_52, counts_34)).bind fun s_115 => (((some s_115.2).bind fun x_118 => ((some s_115.1).bind fun x_116 => (some []).bind fun xs_117 => some (x_116 :: xs_117)).bind fun xs_119 => some (x_118 :: xs_119)).bind (few .tup)))))))
noncomputable def m_law_kept : Option D := (((some (.str "house")).bind fun x_25 => ((some (.str "variable")).bind fun x_23 => ((some (.str "says")).bind fun x_21 => ((some (.str "hears")).bind fun x_19 => ((some (.str "end")).bind fun x_17 => ((some (.str "if")).bind fun x_15 => ((some (.str "and")).bind fun x_13 => ((some (.str "ignores")).bind fun x_11 => ((some (.str "rises")).bind fun x_9 => ((some (.str "falls")).bind fun x_7 => ((some (.str "with")).bind fun x_5 => ((some (.str "never")).bind fun x_3 => ((some (.str "when")).bind fun x_1 => (some []).bind fun xs_2 => some (x_1 :: xs_2)).bind fun xs_4 => some (x_3 :: xs_4)).bind fun xs_6 => some (x_5 :: xs_6)).bind fun xs_8 => some (x_7 :: xs_8)).bind fun xs_10 => some (x_9 :: xs_10)).bind fun xs_12 => some (x_11 :: xs_12)).bind fun xs_14 => some (x_13 :: xs_14)).bind fun xs_16 => some (x_15 :: xs_16)).bind fun xs_18 => some (x_17 :: xs_18)).bind fun xs_20 => some (x_19 :: xs_20)).bind fun xs_22 => some (x_21 :: xs_22)).bind fun xs_24 => some (x_23 :: xs_24)).bind fun xs_26 => some (x_25 :: xs_26)).bind (few .lst))
noncomputable def m_law_name (row_1 : D) (k_2 : D) : Option D := ((some (.str "abcdefghijklmnopqrstuvwxyz")).bind fun letters_3 => ((some (.str "")).bind fun text_4 => ((((((some row_1).bind fun t6 => (some (.int 0)).bind fun t7 => dIx t6 t7).bind fun x_8 => (some []).bind fun xs_9 => some (x_8 :: xs_9)).bind (on1 dInt)).bind fun t10 => (some (.int 12)).bind fun t11 => dMod t10 t11).bind fun size_v_5 => ((((((((some row_1).bind fun t13 => (some (.int 0)).bind fun t14 => dIx t13 t14).bind fun t15 => (some (.int 12)).bind fun t16 => dFdiv t15 t16).bind fun x_17 => (some []).bind fun xs_18 => some (x_17 :: xs_18)).bind (on1 dInt)).bind fun t19 => (some (.int 2)).bind fun t20 => dMod t19 t20).bind fun t21 => (some (.int 0)).bind fun t22 => dEqF t21 t22).bind fun alike_12 => (((((some alike_12).bind asB).map fun b_23 => !b_23).bind fun c_24 => if c_24 = true then ((((some (.int 0)).bind fun x_31 => (((some size_v_5).bind fun t27 => (some k_2).bind fun t28 => dSub t27 t28).bind fun x_29 => (some []).bind fun xs_30 => some (x_29 :: xs_30)).bind fun xs_32 => some (x_31 :: xs_32)).bind (on2 dMax2)).bind fun size_v_26 => (some size_v_26)) else (some size_v_5)).bind fun s_25 => ((((some s_25).bind dRng1).bind fun xs => forS (fun x_63 (b_33 : D) => (some x_63).bind fun c_34 => ((((some c_34).bind fun t35 => (some (.int 0)).bind fun t36 => (dEqF t35 t36).bind asB).bind fun c_37 => if c_37 = true then (((some letters_3).bind fun t46 => (((((some row_1).bind fun t40 => (some (.int 3)).bind fun t41 => dIx t40 t41).bind fun x_42 => (some []).bind fun xs_43 => some (x_42 :: xs_43)).bind (on1 dInt)).bind fun t44 => (some (.int 26)).bind fun t45 => dMod t44 t45).bind fun t47 => dIx t46 t47).bind fun text_39 => (some text_39)) else (((some b_33).bind fun t61 => (((some letters_3).bind fun t49 => (some (.str "0123456789")).bind fun t50 => dAdd t49 t50).bind fun t59 => (((((some row_1).bind fun t53 => ((some (.int 3)).bind fun t51 => (some c_34).bind fun t52 => dAdd t51 t52).bind fun t54 => dIx t53 t54).bind fun x_55 => (some []).bind fun xs_56 => some (x_55 :: xs_56)).bind (on1 dInt)).bind fun t57 => (some (.int 36)).bind fun t58 => dMod t57 t58).bind fun t60 => dIx t59 t60).bind fun t62 => dAdd t61 t62).bind fun text_48 => (some text_48))).bind fun s_38 => (some s_38))) xs text_4).bind fun s_64 => ((((((some row_1).bind fun t66 => (some (.int 1)).bind fun t67 => dIx t66 t67).bind fun x_68 => (some []).bind fun xs_69 => some (x_68 :: xs_69)).bind (on1 dInt)).bind fun t72 => ((some s_25).bind fun t70 => (some (.int 1)).bind fun t71 => dAdd t70 t71).bind fun t73 => dMod t72 t73).bind fun at_65 => (((((some alike_12).bind asB).map fun b_74 => !b_74).bind fun c_75 => if c_75 = true then ((some (.int 0)).bind fun at_77 => (some at_77)) else (some at_65)).bind fun s_76 => (((((some s_64).bind fun t79 => (some none).bind fun t80 => (optI (some s_76)).bind fun t81 => dSlS t79 t80 t81).bind fun t92 => ((some letters_3).bind fun t90 => ((((((some row_1).bind fun t82 => (some (.int 2)).bind fun t83 => dIx t82 t83).bind fun t84 => (some k_2).bind fun t85 => dAdd t84 t85).bind fun x_86 => (some []).bind fun xs_87 => some (x_86 :: xs_87)).bind (on1 dInt)).bind fun t88 => (some (.int 26)).bind fun t89 => dMod t88 t89).bind fun t91 => dIx t90 t91).bind fun t93 => dAdd t92 t93).bind fun t97 => ((some s_64).bind fun t94 => (optI (some s_76)).bind fun t95 => (some none).bind fun t96 => dSlS t94 t95 t96).bind fun t98 => dAdd t97 t98).bind fun text_78 => ((((some text_78).bind fun t99 => ((some []).bind (on0 (m_law_kept))).bind fun t100 => (dIn t99 t100).bind asB).bind fun c_101 => if c_101 = true then (((some text_78).bind fun t104 => (some (.str "x")).bind fun t105 => dAdd t104 t105).bind fun text_103 => (some text_103)) else (some text_78)).bind fun s_102 => (some s_102)))))))))))
noncomputable def m_law_names (script_1 : D) (place_2 : D) (many_3 : D) : Option D := ((((some script_1).bind fun x_9 => ((some place_2).bind fun x_7 => ((some (.int 15)).bind fun x_5 => (some []).bind fun xs_6 => some (x_5 :: xs_6)).bind fun xs_8 => some (x_7 :: xs_8)).bind fun xs_10 => some (x_9 :: xs_10)).bind (on3 (m_law_row))).bind fun row_4 => (((some many_3).bind dRng1).bind fun xs => (capD xs).bind fun xs => (compD (fun x_16 => (some x_16).bind fun c_11 => (some true).bind fun b_17 => if b_17 = true then (((some row_4).bind fun x_14 => ((some c_11).bind fun x_12 => (some []).bind fun xs_13 => some (x_12 :: xs_13)).bind fun xs_15 => some (x_14 :: xs_15)).bind (on2 (m_law_name))).map some else some none) xs).map .lst))
noncomputable def m_law_house (script_1 : D) (place_2 : D) (cap_3 : D) : Option D := (((((some script_1).bind fun x_9 => ((some place_2).bind fun x_7 => ((some cap_3).bind fun x_5 => (some []).bind fun xs_6 => some (x_5 :: xs_6)).bind fun xs_8 => some (x_7 :: xs_8)).bind fun xs_10 => some (x_9 :: xs_10)).bind (on3 (m_law_shape))).bind dUn2).bind fun c_4 => ((((some script_1).bind fun x_20 => (((some place_2).bind fun t12 => (some (.int 1)).bind fun t13 => dAdd t12 t13).bind fun x_18 => ((((some c_4.1).bind fun x_14 => (some []).bind fun xs_15 => some (x_14 :: xs_15)).bind (on1 dLen)).bind fun x_16 => (some []).bind fun xs_17 => some (x_16 :: xs_17)).bind fun xs_19 => some (x_18 :: xs_19)).bind fun xs_21 => some (x_20 :: xs_21)).bind (on3 (m_law_names))).bind fun names_11 => (((some []).bind (few .lst)).bind fun words_22 => ((((((some c_4.1).bind fun x_23 => (some []).bind fun xs_24 => some (x_23 :: xs_24)).bind (on1 dLen)).bind dRng1).bind fun xs => forS (fun x_87 (b_25 : D) => (some x_87).bind fun c_26 => ((((some script_1).bind fun x_36 => ((((some place_2).bind fun t28 => (some (.int 2)).bind fun t29 => dAdd t28 t29).bind fun t30 => (some c_26).bind fun t31 => dAdd t30 t31).bind fun x_34 => ((some (.int 3)).bind fun x_32 => (some []).bind fun xs_33 => some (x_32 :: xs_33)).bind fun xs_35 => some (x_34 :: xs_35)).bind fun xs_37 => some (x_36 :: xs_37)).bind (on3 (m_law_names))).bind fun found_27 => ((((((((((some script_1).bind fun x_42 => ((some place_2).bind fun x_40 => ((some (.int 40)).bind fun x_38 => (some []).bind fun xs_39 => some (x_38 :: xs_39)).bind fun xs_41 => some (x_40 :: xs_41)).bind fun xs_43 => some (x_42 :: xs_43)).bind (on3 (m_law_row))).bind fun t44 => (some (.int 38)).bind fun t45 => dIx t44 t45).bind fun x_46 => (some []).bind fun xs_47 => some (x_46 :: xs_47)).bind (on1 dInt)).bind fun t48 => (some (.int 3)).bind fun t49 => dMod t48 t49).bind fun t50 => (some (.int 0)).bind fun t51 => (dEqF t50 t51).bind asB).bind fun c_52 => if c_52 = true then ((((some script_1).bind fun x_61 => (((some place_2).bind fun t55 => (some (.int 2)).bind fun t56 => dAdd t55 t56).bind fun x_59 => ((some (.int 3)).bind fun x_57 => (some []).bind fun xs_58 => some (x_57 :: xs_58)).bind fun xs_60 => some (x_59 :: xs_60)).bind fun xs_62 => some (x_61 :: xs_62)).bind (on3 (m_law_names))).bind fun found_54 => ((((some found_54).bind fun t68 => (optI ((((some c_26).bind fun x_64 => (some []).bind fun xs_65 => some (x_64 :: xs_65)).bind (on1 dInt)).bind fun t66 => (some (.int 3)).bind fun t67 => dMod t66 t67)).bind fun t69 => (some none).bind fun t70 => dSl t68 t69 t70).bind fun t78 => ((some found_54).bind fun t75 => (some none).bind fun t76 => (optI ((((some c_26).bind fun x_71 => (some []).bind fun xs_72 => some (x_71 :: xs_72)).bind (on1 dInt)).bind fun t73 => (some (.int 3)).bind fun t74 => dMod t73 t74)).bind fun t77 => dSl t75 t76 t77).bind fun t79 => dCat t78 t79).bind fun found_63 => (some found_63))) else (some found_27)).bind fun s_53 => ((((some s_53).bind fun t82 => (some none).bind fun t83 => (optI ((some c_4.1).bind fun t80 => (some c_26).bind fun t81 => dIx t80 t81)).bind fun t84 => dSl t82 t83 t84).bind fun t85 => dApp b_25 t85).bind fun words_86 => (some words_86))))) xs words_22).bind fun s_88 => (((some names_11).bind fun x_93 => ((some s_88).bind fun x_91 => ((some c_4.2).bind fun x_89 => (some []).bind fun xs_90 => some (x_89 :: xs_90)).bind fun xs_92 => some (x_91 :: xs_92)).bind fun xs_94 => some (x_93 :: xs_94)).bind (few .tup))))))
noncomputable def m_law_text_words (house_1 : D) : Option D := (((some house_1).bind dUn3).bind fun c_2 => ((((some (.str "house")).bind fun x_4 => (some []).bind fun xs_5 => some (x_4 :: xs_5)).bind (few .lst)).bind fun found_3 => ((((((some c_2.1).bind fun x_6 => (some []).bind fun xs_7 => some (x_6 :: xs_7)).bind (on1 dLen)).bind dRng1).bind fun xs => forS (fun x_48 (b_8 : D) => (some x_48).bind fun c_9 => ((((some b_8).bind fun t19 => (((some (.str "variable")).bind fun x_17 => (((some c_2.1).bind fun t11 => (some c_9).bind fun t12 => dIx t11 t12).bind fun x_15 => ((some (.str "says")).bind fun x_13 => (some []).bind fun xs_14 => some (x_13 :: xs_14)).bind fun xs_16 => some (x_15 :: xs_16)).bind fun xs_18 => some (x_17 :: xs_18)).bind (few .lst)).bind fun t20 => dCat t19 t20).bind fun t23 => ((some c_2.2.1).bind fun t21 => (some c_9).bind fun t22 => dIx t21 t22).bind fun t24 => dCat t23 t24).bind fun found_10 => (((((some c_2.2.2).bind fun t25 => (some c_9).bind fun t26 => dIx t25 t26).bind dTru).bind fun c_27 => if c_27 = true then ((((some found_10).bind fun t32 => (((some (.str "hears")).bind fun x_30 => (some []).bind fun xs_31 => some (x_30 :: xs_31)).bind (few .lst)).bind fun t33 => dCat t32 t33).bind fun t41 => ((((some c_2.2.2).bind fun t34 => (some c_9).bind fun t35 => dIx t34 t35).bind asL).bind fun xs => (capD xs).bind fun xs => (compD (fun x_39 => (some x_39).bind fun c_36 => (some true).bind fun b_40 => if b_40 = true then ((some c_2.1).bind fun t37 => (some c_36).bind fun t38 => dIx t37 t38).map some else some none) xs).map .lst).bind fun t42 => dCat t41 t42).bind fun found_29 => (some found_29)) else (some found_10)).bind fun s_28 => (((some s_28).bind fun t46 => (((some (.str "end")).bind fun x_44 => (some []).bind fun xs_45 => some (x_44 :: xs_45)).bind (few .lst)).bind fun t47 => dCat t46 t47).bind fun found_43 => (some found_43))))) xs found_3).bind fun s_49 => ((some s_49).bind fun t52 => (((some (.str "end")).bind fun x_50 => (some []).bind fun xs_51 => some (x_50 :: xs_51)).bind (few .lst)).bind fun t53 => dCat t52 t53))))
noncomputable def m_law_is_name (word_1 : D) : Option D := ((((((some (.int 1)).bind fun t4 => (((some word_1).bind fun x_2 => (some []).bind fun xs_3 => some (x_2 :: xs_3)).bind (on1 dLen)).bind fun t5 => (dLe t4 t5).bind fun t6 => (asB t6).bind fun t7 => if t7 = true then (some (.int 12)).bind fun t8 => dLe t5 t8 else some (.bl false)).bind asB).map fun b_9 => !b_9).bind fun c_12 => if c_12 = true then some true else ((some word_1).bind fun t10 => ((some []).bind (on0 (m_law_kept))).bind fun t11 => (dIn t10 t11).bind asB)).bind fun c_13 => if c_13 = true then (some (.bl false)) else ((((some word_1).bind dChars).bind fun xs => forF (γ := Empty) (fun x_19 (b_14 : Unit) => (some x_19).bind fun c_15 => (((some c_15).bind fun t16 => (some (.str "abcdefghijklmnopqrstuvwxyz0123456789")).bind fun t17 => (dNinT t16 t17).bind asB).bind fun c_18 => if c_18 = true then ((((some (.bl false)).map Fl.rt) : Option (Fl Empty (Unit)))).bind (flE (β := Unit)) else (some (Fl.nx ())))) xs ()).bind (flT fun s_20 => (((some word_1).bind fun t21 => (some (.int 0)).bind fun t22 => dIx t21 t22).bind fun t23 => (some (.str "0123456789")).bind fun t24 => dNinT t23 t24))))
noncomputable def m_law_read_names (words_1 : D) (at_2 : D) (most_3 : D) : Option D := (((some []).bind (few .lst)).bind fun names_4 => ((((some most_3).bind dRng1).bind fun xs => forS (fun x_40 (b_5 : D) => (some x_40).bind fun c_6 => ((((((some at_2).bind fun t7 => (some c_6).bind fun t8 => dAdd t7 t8).bind fun t11 => (((some words_1).bind fun x_9 => (some []).bind fun xs_10 => some (x_9 :: xs_10)).bind (on1 dLen)).bind fun t12 => (dLt t11 t12).bind asB).bind fun c_31 => if c_31 = true then (((((some b_5).bind fun x_13 => (some []).bind fun xs_14 => some (x_13 :: xs_14)).bind (on1 dLen)).bind fun t15 => (some c_6).bind fun t16 => (dEqF t15 t16).bind asB).bind fun c_30 => if c_30 = true then ((((((some words_1).bind fun t19 => ((some at_2).bind fun t17 => (some c_6).bind fun t18 => dAdd t17 t18).bind fun t20 => dIx t19 t20).bind fun x_21 => (some []).bind fun xs_22 => some (x_21 :: xs_22)).bind (on1 (m_law_is_name))).bind asB).bind fun c_29 => if c_29 = true then (((some words_1).bind fun t25 => ((some at_2).bind fun t23 => (some c_6).bind fun t24 => dAdd t23 t24).bind fun t26 => dIx t25 t26).bind fun t27 => (some b_5).bind fun t28 => (dNin t27 t28).bind asB) else some false) else some false) else some false).bind fun c_32 => if c_32 = true then ((((some words_1).bind fun t36 => ((some at_2).bind fun t34 => (some c_6).bind fun t35 => dAdd t34 t35).bind fun t37 => dIx t36 t37).bind fun t38 => dApp b_5 t38).bind fun names_39 => (some names_39)) else (some b_5)).bind fun s_33 => (some s_33))) xs names_4).bind fun s_41 => (some s_41)))
noncomputable def m_law_read_heard (words_1 : D) (at_2 : D) (names_3 : D) : Option D := (((some []).bind (few .lst)).bind fun found_4 => ((((((some names_3).bind fun x_5 => (some []).bind fun xs_6 => some (x_5 :: xs_6)).bind (on1 dLen)).bind dRng1).bind fun xs => forS (fun x_46 (b_7 : D) => (some x_46).bind fun c_8 => ((some (.str "")).bind fun word_9 => ((((((some at_2).bind fun t10 => (some c_8).bind fun t11 => dAdd t10 t11).bind fun t14 => (((some words_1).bind fun x_12 => (some []).bind fun xs_13 => some (x_12 :: xs_13)).bind (on1 dLen)).bind fun t15 => (dLt t14 t15).bind asB).bind fun c_20 => if c_20 = true then ((((some b_7).bind fun x_16 => (some []).bind fun xs_17 => some (x_16 :: xs_17)).bind (on1 dLen)).bind fun t18 => (some c_8).bind fun t19 => (dEqF t18 t19).bind asB) else some false).bind fun c_21 => if c_21 = true then (((some words_1).bind fun t26 => ((some at_2).bind fun t24 => (some c_8).bind fun t25 => dAdd t24 t25).bind fun t27 => dIx t26 t27).bind fun word_23 => (some word_23)) else (some word_9)).bind fun s_22 => (((((some s_22).bind fun t28 => (some names_3).bind fun t29 => (dIn t28 t29).bind asB).bind fun c_39 => if c_39 = true then (((some b_7).bind fun t30 => ((some []).bind (few .lst)).bind fun t31 => (dEq t30 t31).bind asB).bind fun c_38 => if c_38 = true then some true else (((some names_3).bind fun t32 => (some s_22).bind fun t33 => dIndex t32 t33).bind fun t36 => ((some b_7).bind fun t34 => ((some (.int 1)).bind dNeg).bind fun t35 => dIx t34 t35).bind fun t37 => (dGt t36 t37).bind asB)) else some false).bind fun c_40 => if c_40 = true then ((((some names_3).bind fun t42 => (some s_22).bind fun t43 => dIndex t42 t43).bind fun t44 => dApp b_7 t44).bind fun found_45 => (some found_45)) else (some b_7)).bind fun s_41 => (some s_41))))) xs found_4).bind fun s_47 => (some s_47)))
noncomputable def r_law_read_variable (mil : D → Option D) (mrn mrh : D → D → D → Option D) (words_1 : D) (at_2 : D) (names_3 : D) : Option D := ((((some words_1).bind fun t6 => (optI (some at_2)).bind fun t7 => (optI ((some at_2).bind fun t4 => (some (.int 1)).bind fun t5 => dAdd t4 t5)).bind fun t8 => dSl t6 t7 t8).bind fun t11 => (((some (.str "variable")).bind fun x_9 => (some []).bind fun xs_10 => some (x_9 :: xs_10)).bind (few .lst)).bind fun t12 => (dNe t11 t12).bind asB).bind fun c_13 => if c_13 = true then ((((some at_2).bind fun x_18 => ((some .non).bind fun x_16 => ((some (.int 0)).bind fun x_14 => (some []).bind fun xs_15 => some (x_14 :: xs_15)).bind fun xs_17 => some (x_16 :: xs_17)).bind fun xs_19 => some (x_18 :: xs_19)).bind (few .tup)).bind (vO shLv)) else (((((some at_2).bind fun t20 => (some (.int 1)).bind fun t21 => dAdd t20 t21).bind fun t24 => (((some words_1).bind fun x_22 => (some []).bind fun xs_23 => some (x_22 :: xs_23)).bind (on1 dLen)).bind fun t25 => (dGe t24 t25).bind asB).bind fun c_40 => if c_40 = true then some true else (((((((some words_1).bind fun t28 => ((some at_2).bind fun t26 => (some (.int 1)).bind fun t27 => dAdd t26 t27).bind fun t29 => dIx t28 t29).bind fun x_30 => (some []).bind fun xs_31 => some (x_30 :: xs_31)).bind (on1 mil)).bind asB).map fun b_32 => !b_32).bind fun c_39 => if c_39 = true then some true else (((some words_1).bind fun t35 => ((some at_2).bind fun t33 => (some (.int 1)).bind fun t34 => dAdd t33 t34).bind fun t36 => dIx t35 t36).bind fun t37 => (some names_3).bind fun t38 => (dIn t37 t38).bind asB))).bind fun c_41 => if c_41 = true then (((((some at_2).bind fun t42 => (some (.int 1)).bind fun t43 => dAdd t42 t43).bind fun x_48 => ((some .non).bind fun x_46 => ((some (.int 0)).bind fun x_44 => (some []).bind fun xs_45 => some (x_44 :: xs_45)).bind fun xs_47 => some (x_46 :: xs_47)).bind fun xs_49 => some (x_48 :: xs_49)).bind (few .tup)).bind (vO shLv)) else ((((some words_1).bind fun t54 => (optI ((some at_2).bind fun t50 => (some (.int 2)).bind fun t51 => dAdd t50 t51)).bind fun t55 => (optI ((some at_2).bind fun t52 => (some (.int 3)).bind fun t53 => dAdd t52 t53)).bind fun t56 => dSl t54 t55 t56).bind fun t59 => (((some (.str "says")).bind fun x_57 => (some []).bind fun xs_58 => some (x_57 :: xs_58)).bind (few .lst)).bind fun t60 => (dNe t59 t60).bind asB).bind fun c_61 => if c_61 = true then (((((some at_2).bind fun t62 => (some (.int 2)).bind fun t63 => dAdd t62 t63).bind fun x_68 => ((some .non).bind fun x_66 => ((some (.int 0)).bind fun x_64 => (some []).bind fun xs_65 => some (x_64 :: xs_65)).bind fun xs_67 => some (x_66 :: xs_67)).bind fun xs_69 => some (x_68 :: xs_69)).bind (few .tup)).bind (vO shLv)) else ((((some words_1).bind fun x_77 => (((some at_2).bind fun t71 => (some (.int 3)).bind fun t72 => dAdd t71 t72).bind fun x_75 => ((some (.int 3)).bind fun x_73 => (some []).bind fun xs_74 => some (x_73 :: xs_74)).bind fun xs_76 => some (x_75 :: xs_76)).bind fun xs_78 => some (x_77 :: xs_78)).bind (on3 mrn)).bind fun own_70 => (((((some at_2).bind fun t80 => (some (.int 3)).bind fun t81 => dAdd t80 t81).bind fun t84 => (((some own_70).bind fun x_82 => (some []).bind fun xs_83 => some (x_82 :: xs_83)).bind (on1 dLen)).bind fun t85 => dAdd t84 t85).bind flatD).bind fun place_79 => (((((some own_70).bind fun x_86 => (some []).bind fun xs_87 => some (x_86 :: xs_87)).bind (on1 dLen)).bind fun t88 => (some (.int 2)).bind fun t89 => (dLt t88 t89).bind asB).bind fun c_90 => if c_90 = true then ((((some place_79).bind fun x_95 => ((some .non).bind fun x_93 => ((some (.int 0)).bind fun x_91 => (some []).bind fun xs_92 => some (x_91 :: xs_92)).bind fun xs_94 => some (x_93 :: xs_94)).bind fun xs_96 => some (x_95 :: xs_96)).bind (few .tup)).bind (vO shLv)) else (((some []).bind (few .lst)).bind fun heard_97 => (((((some names_3).bind dTru).bind fun c_107 => if c_107 = true then (((some words_1).bind fun t100 => (optI (some place_79)).bind fun t101 => (optI ((some place_79).bind fun t98 => (some (.int 1)).bind fun t99 => dAdd t98 t99)).bind fun t102 => dSl t100 t101 t102).bind fun t105 => (((some (.str "hears")).bind fun x_103 => (some []).bind fun xs_104 => some (x_103 :: xs_104)).bind (few .lst)).bind fun t106 => (dEq t105 t106).bind asB) else some false).bind fun c_108 => if c_108 = true then ((((some words_1).bind fun x_117 => (((some place_79).bind fun t111 => (some (.int 1)).bind fun t112 => dAdd t111 t112).bind fun x_115 => ((some names_3).bind fun x_113 => (some []).bind fun xs_114 => some (x_113 :: xs_114)).bind fun xs_116 => some (x_115 :: xs_116)).bind fun xs_118 => some (x_117 :: xs_118)).bind (on3 mrh)).bind fun heard_110 => (((((some place_79).bind fun t120 => (some (.int 1)).bind fun t121 => dAdd t120 t121).bind fun t124 => (((some heard_110).bind fun x_122 => (some []).bind fun xs_123 => some (x_122 :: xs_123)).bind (on1 dLen)).bind fun t125 => dAdd t124 t125).bind flatD).bind fun place_119 => (((some heard_110).bind fun t126 => ((some []).bind (few .lst)).bind fun t127 => (dEq t126 t127).bind asB).bind fun c_128 => if c_128 = true then ((((((some place_119).bind fun x_133 => ((some .non).bind fun x_131 => ((some (.int 0)).bind fun x_129 => (some []).bind fun xs_130 => some (x_129 :: xs_130)).bind fun xs_132 => some (x_131 :: xs_132)).bind fun xs_134 => some (x_133 :: xs_134)).bind (few .tup)).map Fl.rt) : Option (Fl Empty (Empty)))).bind (flE (β := D × D)) else (some (Fl.nx (heard_110, place_119)))))) else (some (Fl.nx (heard_97, place_79)))).bind (flV shLv fun s_109 => ((((some words_1).bind fun t137 => (optI (some s_109.2)).bind fun t138 => (optI ((some s_109.2).bind fun t135 => (some (.int 1)).bind fun t136 => dAdd t135 t136)).bind fun t139 => dSl t137 t138 t139).bind fun t142 => (((some (.str "end")).bind fun x_140 => (some []).bind fun xs_141 => some (x_140 :: xs_141)).bind (few .lst)).bind fun t143 => (dNe t142 t143).bind asB).bind fun c_144 => if c_144 = true then ((((some s_109.2).bind fun x_149 => ((some .non).bind fun x_147 => ((some (.int 0)).bind fun x_145 => (some []).bind fun xs_146 => some (x_145 :: xs_146)).bind fun xs_148 => some (x_147 :: xs_148)).bind fun xs_150 => some (x_149 :: xs_150)).bind (few .tup)).bind (vO shLv)) else (((((some (.int 1)).bind dNeg).bind fun x_167 => (((((some words_1).bind fun t153 => ((some at_2).bind fun t151 => (some (.int 1)).bind fun t152 => dAdd t151 t152).bind fun t154 => dIx t153 t154).bind fun x_159 => ((some own_70).bind fun x_157 => ((some s_109.1).bind fun x_155 => (some []).bind fun xs_156 => some (x_155 :: xs_156)).bind fun xs_158 => some (x_157 :: xs_158)).bind fun xs_160 => some (x_159 :: xs_160)).bind (few .tup)).bind fun x_165 => (((some s_109.2).bind fun t161 => (some (.int 1)).bind fun t162 => dAdd t161 t162).bind fun x_163 => (some []).bind fun xs_164 => some (x_163 :: xs_164)).bind fun xs_166 => some (x_165 :: xs_166)).bind fun xs_168 => some (x_167 :: xs_168)).bind (few .tup)).bind fun d => if bNon d = true then none else some d)))))))))))
noncomputable def m_law_read_variable : D → D → D → Option D := r_law_read_variable m_law_is_name m_law_read_names m_law_read_heard
noncomputable def r_law_read (mrv : D → D → D → Option D) (words_1 : D) : Option D :=
  ((((some []).bind (few .lst)).bind fun x_1 => (((some []).bind (few .lst)).bind fun x_2 => (((some []).bind (few .lst)).bind fun x_3 => (some []).bind fun xs => some (x_3 :: xs)).bind fun xs => some (x_2 :: xs)).bind fun xs => some (x_1 :: xs)).bind (few .tup)).bind fun house_2 =>
  (((some words_1).bind fun t6 => (some none).bind fun t7 => (optI (some (.int 1))).bind fun t8 => dSl t6 t7 t8).bind fun t11 => (((some (.str "house")).bind fun x_9 => (some []).bind fun xs_10 => some (x_9 :: xs_10)).bind (few .lst)).bind fun t12 => (dNe t11 t12).bind asB).bind fun c_13 => if c_13 = true then (((some (.int 0)).bind fun x_14 => ((some house_2).bind fun x_16 => (some []).bind fun xs_15 => some (x_16 :: xs_15)).bind fun xs_17 => some (x_14 :: xs_17)).bind (few .tup)) else
  (some (.int 1)).bind fun at_3 =>
  (((some (.int 5)).bind dRng1).bind fun xs => forF (γ := Empty) (fun x (b : D × D) => (some x).bind fun c => ((((some c).bind fun t2 => (some (.int 0)).bind fun t3 => (dEqF t2 t3).bind asB).bind fun c_1 => if c_1 = true then some true else (((some words_1).bind fun t6 => (optI (some b.2)).bind fun t7 => (optI ((some b.2).bind fun t4 => (some (.int 1)).bind fun t5 => dAdd t4 t5)).bind fun t8 => dSl t6 t7 t8).bind fun t11 => (((some (.str "end")).bind fun x_9 => (some []).bind fun xs_10 => some (x_9 :: xs_10)).bind (few .lst)).bind fun t12 => (dNe t11 t12).bind asB)).bind fun c_2 => if c_2 = true then
        (((((((some words_1).bind fun x_5 => ((some b.2).bind fun x_3 => (((some b.1).bind fun t1 => (some (.int 0)).bind fun t2 => dIx t1 t2).bind fun x_1 => (some []).bind fun xs_2 => some (x_1 :: xs_2)).bind fun xs_4 => some (x_3 :: xs_4)).bind fun xs_6 => some (x_5 :: xs_6)).bind (on3 mrv)).bind fun z => if floT (shLv z) z = true then some z else none)).bind dUn3).bind fun r =>
          ((some r.1).bind fun t2 => (some (.int 0)).bind fun t3 => (dGe t2 t3).bind asB).bind fun c_3 => if c_3 = true then (((((some r.1).bind fun x_14 => ((some b.1).bind fun x_16 => (some []).bind fun xs_15 => some (x_16 :: xs_15)).bind fun xs_17 => some (x_14 :: xs_17)).bind (few .tup)).map Fl.rt) : Option (Fl Empty (D × D))).bind (flE (β := D × D)) else
          (((some (.int 3)).bind dRng1).bind fun xs => forS (fun x (h : D) => (some x).bind fun p => (((some r.2.1).bind fun t2 => (some p).bind fun t3 => dIx t2 t3).bind fun y => tapD (.t fun _ => .l .v) h p y).bind fun h1 => some h1) xs b.1).bind fun h1 =>
          (some r.2.2).bind fun at1 => some (Fl.nx (h1, at1)))
      else some (Fl.nx (b.1, b.2))).bind (flF fun s => some (Fl.nx (s.1, s.2)))) xs (house_2, at_3)).bind (flT fun s =>
  (((some words_1).bind fun t6 => (optI (some s.2)).bind fun t7 => (optI ((some s.2).bind fun t4 => (some (.int 1)).bind fun t5 => dAdd t4 t5)).bind fun t8 => dSl t6 t7 t8).bind fun t11 => (((some (.str "end")).bind fun x_9 => (some []).bind fun xs_10 => some (x_9 :: xs_10)).bind (few .lst)).bind fun t12 => (dNe t11 t12).bind asB).bind fun c_14 => if c_14 = true then (((some s.2).bind fun x_14 => ((some s.1).bind fun x_16 => (some []).bind fun xs_15 => some (x_16 :: xs_15)).bind fun xs_17 => some (x_14 :: xs_17)).bind (few .tup)) else
  (((((some words_1).bind fun x_22 => (some []).bind fun xs_23 => some (x_22 :: xs_23)).bind (on1 dLen))).bind fun t24 => ((some s.2).bind fun t20 => (some (.int 1)).bind fun t21 => dAdd t20 t21).bind fun t25 => (dGt t24 t25).bind asB).bind fun c_15 => if c_15 = true then ((((some s.2).bind fun t20 => (some (.int 1)).bind fun t21 => dAdd t20 t21).bind fun x_14 => ((some s.1).bind fun x_16 => (some []).bind fun xs_15 => some (x_16 :: xs_15)).bind fun xs_17 => some (x_14 :: xs_17)).bind (few .tup)) else ((((some (.int 1)).bind dNeg).bind fun x_14 => ((some s.1).bind fun x_16 => (some []).bind fun xs_15 => some (x_16 :: xs_15)).bind fun xs_17 => some (x_14 :: xs_17)).bind (few .tup)))
noncomputable def m_law_read : D → Option D := r_law_read m_law_read_variable
noncomputable def i_Reader (text_1 : D) : Option D := ((((((some text_1).bind fun t2 => (some (.str " ")).bind fun t3 => dSplit t2 t3).bind asL).bind fun xs => (capD xs).bind fun xs => (compD (fun x_7 => (some x_7).bind fun c_4 => ((some c_4).bind fun t5 => (some (.str "")).bind fun t6 => (dNeF t5 t6).bind asB).bind fun b_8 => if b_8 = true then (some c_4).map some else some none) xs).map .lst).bind fun t9 => dStF 0 "words" (.ob 0 []) t9).bind fun self_10 => (((some (.int 0)).bind fun t11 => dStF 0 "at" self_10 t11).bind fun self_12 => (some self_12)))
noncomputable def mk_Reader : List D → Option D := on1 i_Reader
noncomputable def m_Reader_ended (self_1 : D) : Option D := (((some self_1).bind (dFld 0 "at")).bind fun t4 => ((((some self_1).bind (dFld 0 "words")).bind fun x_2 => (some []).bind fun xs_3 => some (x_2 :: xs_3)).bind (on1 dLen)).bind fun t5 => dEqF t4 t5)
noncomputable def m_Reader_coming (self_1 : D) : Option D := (((((some self_1).bind (dMt 0 "ended")).bind fun x_2 => (some []).bind fun xs => (on1 (m_Reader_ended)) (x_2 :: xs)).bind asB).bind fun c_3 => if c_3 = true then (some (.str "")) else (((some self_1).bind (dFld 0 "words")).bind fun t4 => ((some self_1).bind (dFld 0 "at")).bind fun t5 => dIx t4 t5))
noncomputable def r_Reader_take (kb : Nat) (mc : D → Option D) (self_2 : D) (allowed_1 : D) : Rs (D × D) :=
  thenR (okR ((((some self_2).bind (dMt 0 "coming")).bind fun x_4 => (some []).bind fun xs => (on1 mc) (x_4 :: xs)).bind flatD)) fun word_3 =>
  thenR (raiseIf ((some word_3).bind fun t5 => (some allowed_1).bind fun t6 => (dNin t5 t6).bind asB) ((((some self_2).bind (dFld 0 "at")).bind flatD).bind (errI kb))) fun _ =>
  thenR (okR ((dFld 0 "at" self_2).bind fun a_10 => (some (.int 1)).bind fun y_11 => (dAddI a_10 y_11).bind fun z_12 => dStF 0 "at" self_2 z_12)) fun self_13 =>
  thenR (okR (some word_3)) fun b => some (.ok (b, self_13))
noncomputable def e_Reader_take : D → D → Rs (D × D) := r_Reader_take 2 m_Reader_coming
noncomputable def r_Reader_finish (kb : Nat) (me : D → Option D) (self_1 : D) : Rs D :=
  thenR (raiseIf (((((some self_1).bind (dMt 0 "ended")).bind fun x_1 => (some []).bind fun xs => (on1 me) (x_1 :: xs)).bind asB).map fun b_2 => !b_2) ((((some self_1).bind (dFld 0 "at")).bind flatD).bind (errI kb))) fun _ => some (.ok self_1)
noncomputable def e_Reader_finish : D → List D → Rs (D × D) := fun d ds => thenR (own0N (r_Reader_finish 2 m_Reader_ended) d ds) fun q => some (.ok (.non, q))
noncomputable def i_House (names_1 : D) (words_2 : D) (heard_3 : D) : Option D := (((((some names_1).bind fun x_4 => (some []).bind fun xs_5 => some (x_4 :: xs_5)).bind (on1 dList)).bind fun t6 => dStF 1 "names" (.ob 1 []) t6).bind fun self_7 => (((((some words_2).bind asL).bind fun xs => (capD xs).bind fun xs => (compD (fun x_11 => (some x_11).bind fun c_8 => (some true).bind fun b_12 => if b_12 = true then (((some c_8).bind fun x_9 => (some []).bind fun xs_10 => some (x_9 :: xs_10)).bind (on1 dList)).map some else some none) xs).map .lst).bind fun t13 => dStF 1 "words" self_7 t13).bind fun self_14 => (((((some heard_3).bind asL).bind fun xs => (capD xs).bind fun xs => (compD (fun x_18 => (some x_18).bind fun c_15 => (some true).bind fun b_19 => if b_19 = true then (((some c_15).bind fun x_16 => (some []).bind fun xs_17 => some (x_16 :: xs_17)).bind (on1 dList)).map some else some none) xs).map .lst).bind fun t20 => dStF 1 "heard" self_14 t20).bind fun self_21 => (some self_21))))
noncomputable def mk_House : List D → Option D := fun ds => (on3 i_House ds).bind (asOb 1)
noncomputable def m_size (bounds_1 : D) : Option D := ((some (.int 1)).bind fun many_2 => ((((some bounds_1).bind asL).bind fun xs => forS (fun x_8 (b_3 : D) => (some x_8).bind fun c_4 => (((some b_3).bind fun t6 => (some c_4).bind fun t7 => dMul t6 t7).bind fun many_5 => (some many_5))) xs many_2).bind fun s_9 => (some s_9)))
noncomputable def m_heard_bounds (house_1 : D) (variable_2 : D) : Option D := (((((some house_1).bind (dFld 1 "heard")).bind fun t3 => (some variable_2).bind fun t4 => dIx t3 t4).bind asL).bind fun xs => (capD xs).bind fun xs => (compD (fun x_10 => (some x_10).bind fun c_5 => (some true).bind fun b_11 => if b_11 = true then (((((some house_1).bind (dFld 1 "words")).bind fun t6 => (some c_5).bind fun t7 => dIx t6 t7).bind fun x_8 => (some []).bind fun xs_9 => some (x_8 :: xs_9)).bind (on1 dLen)).map some else some none) xs).map .lst)
noncomputable def m_answer_bounds (house_1 : D) : Option D := (((some []).bind (few .lst)).bind fun bounds_2 => (((((((some house_1).bind (dFld 1 "names")).bind fun x_3 => (some []).bind fun xs_4 => some (x_3 :: xs_4)).bind (on1 dLen)).bind dRng1).bind fun xs => forS (fun x_23 (b_5 : D) => (some x_23).bind fun c_6 => ((((((((((some house_1).bind (dFld 1 "words")).bind fun t7 => (some c_6).bind fun t8 => dIx t7 t8).bind fun x_9 => (some []).bind fun xs_10 => some (x_9 :: xs_10)).bind (on1 dLen)).bind fun x_11 => (some []).bind fun xs_12 => some (x_11 :: xs_12)).bind (few .lst)).bind fun t19 => (((((some house_1).bind fun x_15 => ((some c_6).bind fun x_13 => (some []).bind fun xs_14 => some (x_13 :: xs_14)).bind fun xs_16 => some (x_15 :: xs_16)).bind (on2 (m_heard_bounds))).bind fun x_17 => (some []).bind fun xs_18 => some (x_17 :: xs_18)).bind (on1 (m_size))).bind fun t20 => dRep t19 t20).bind fun t21 => dExt b_5 t21).bind fun bounds_22 => (some bounds_22))) xs bounds_2).bind fun s_24 => (some s_24)))
noncomputable def m_way_count (house_1 : D) : Option D := (((((some house_1).bind fun x_2 => (some []).bind fun xs_3 => some (x_2 :: xs_3)).bind (on1 (m_answer_bounds))).bind fun x_4 => (some []).bind fun xs_5 => some (x_4 :: xs_5)).bind (on1 (m_size)))
noncomputable def m_words_after (many_1 : D) : Option D := (((some many_1).bind fun t2 => (some (.int 0)).bind fun t3 => (dEqF t2 t3).bind asB).bind fun c_4 => if c_4 = true then (((some (.str "variable")).bind fun x_5 => (some []).bind fun xs_6 => some (x_5 :: xs_6)).bind (few .lst)) else (((some many_1).bind fun t7 => (some (.int (5))).bind fun t8 => (dLt t7 t8).bind asB).bind fun c_9 => if c_9 = true then (((some (.str "variable")).bind fun x_12 => ((some (.str "end")).bind fun x_10 => (some []).bind fun xs_11 => some (x_10 :: xs_11)).bind fun xs_13 => some (x_12 :: xs_13)).bind (few .lst)) else (((some (.str "end")).bind fun x_14 => (some []).bind fun xs_15 => some (x_14 :: xs_15)).bind (few .lst))))
noncomputable def m_is_name (word_1 : D) : Option D := ((((((some word_1).bind (dIsi .str)).bind asB).map fun b_2 => !b_2).bind fun c_13 => if c_13 = true then some true else (((some word_1).bind fun t3 => (some (.str "")).bind fun t4 => (dEqF t3 t4).bind asB).bind fun c_12 => if c_12 = true then some true else (((((some word_1).bind fun x_5 => (some []).bind fun xs_6 => some (x_5 :: xs_6)).bind (on1 dLen)).bind fun t7 => (some (.int 12)).bind fun t8 => (dGt t7 t8).bind asB).bind fun c_11 => if c_11 = true then some true else ((some word_1).bind fun t9 => (some (.tup [(.str "house"), (.str "variable"), (.str "says"), (.str "hears"), (.str "end"), (.str "if"), (.str "and"), (.str "ignores"), (.str "rises"), (.str "falls"), (.str "with"), (.str "never"), (.str "when")])).bind fun t10 => (dIn t9 t10).bind asB)))).bind fun c_14 => if c_14 = true then (some (.bl false)) else ((((some word_1).bind fun t15 => (some (.int 0)).bind fun t16 => dIx t15 t16).bind fun t17 => (some (.str "abcdefghijklmnopqrstuvwxyz")).bind fun t18 => dInT t17 t18).bind fun t25 => (asB t25).bind fun t26 => if t26 = true then (((some word_1).bind dChars).bind fun xs => allD (fun x_24 => (some x_24).bind fun c_19 => ((some c_19).bind fun t22 => ((some (.str "abcdefghijklmnopqrstuvwxyz")).bind fun t20 => (some (.str "0123456789")).bind fun t21 => dAdd t20 t21).bind fun t23 => dInT t22 t23)) xs) else some (.bl false)))
noncomputable def r_Reader_take_name (kb : Nat) (mc mi : D → Option D) (self_2 : D) (used_1 : D) : Rs (D × D) :=
  thenR (okR ((((some self_2).bind (dMt 0 "coming")).bind fun x_4 => (some []).bind fun xs => (on1 mc) (x_4 :: xs)).bind flatD)) fun word_3 =>
  thenR (raiseIf ((((some word_3).bind fun t5 => (some used_1).bind fun t6 => (dIn t5 t6).bind asB).bind fun c_10 => if c_10 = true then some true else (((((some word_3).bind fun x_7 => (some []).bind fun xs_8 => some (x_7 :: xs_8)).bind (on1 mi)).bind asB).map fun b_9 => !b_9))) ((((some self_2).bind (dFld 0 "at")).bind flatD).bind (errI kb))) fun _ =>
  thenR (okR ((dFld 0 "at" self_2).bind fun a_10 => (some (.int 1)).bind fun y_11 => (dAddI a_10 y_11).bind fun z_12 => dStF 0 "at" self_2 z_12)) fun self_13 =>
  thenR (okR (some word_3)) fun b => some (.ok (b, self_13))
noncomputable def e_Reader_take_name : D → D → Rs (D × D) := r_Reader_take_name 2 m_Reader_coming m_is_name
noncomputable def r_read_words (mc mi : D → Option D) (fn : D → D → Rs (D × D)) (reader_1 : D) : Rs (D × D) :=
  thenR (tn1 fn reader_1 ((some []).bind (few .lst))) fun b1 =>
  thenR (apR (.lst [b1.1]) ((tn1 fn b1.2 (some (.lst [b1.1]))).bind (chkR (shF [("words", .l .v)])))) fun r2 =>
  thenR ((((((some r2.2.2).bind (dMt 0 "coming")).bind fun x_1 => (some []).bind fun xs => (on1 mc) (x_1 :: xs)).bind fun x_2 => (some []).bind fun xs_3 => some (x_2 :: xs_3)).bind (on1 mi)).bind asB |>.bind fun c => if c = true then
      thenR (apR r2.1 ((tn1 fn r2.2.2 (some r2.1)).bind (chkR (shF [("words", .l .v)])))) fun r3 => some (.ok (r3.2.2, r3.1)) else some (.ok (r2.2.2, r2.1))) fun g =>
  thenR (okR (some g.2)) fun b => some (.ok (b, g.1))
noncomputable def e_read_words : D → Rs (D × D) := r_read_words m_Reader_coming m_is_name e_Reader_take_name
noncomputable def r_Reader_take_index (ft : D → D → Rs (D × D)) (self_2 : D) (allowed_1 : D) : Rs (D × D) :=
  thenR ((some allowed_1).bind fun d => (asL d).bind fun _ => thenR ((dMt 0 "take" self_2).bind fun x => ((some allowed_1).bind fun x_3 => (some []).bind fun xs_4 => some (x_3 :: xs_4)).bind fun xs => own1E ft x xs) fun b => okR ((dIndex d b.1).map fun z => (z, b))) fun b => some (.ok (b.1, b.2.2))
noncomputable def e_Reader_take_index : D → D → Rs (D × D) := r_Reader_take_index e_Reader_take
noncomputable def r_read_heard (mc : D → Option D) (ft fi : D → D → Rs (D × D)) (reader_1 earlier_2 : D) : Rs (D × D) :=
  thenR (okR ((some []).bind (few .lst))) fun heard_3 =>
  thenR (thenR (tk1 ft reader_1 (((some earlier_2).bind dTru).bind fun c_10 => if c_10 = true then (((some (.str "hears")).bind fun x_6 => ((some (.str "end")).bind fun x_4 => (some []).bind fun xs_5 => some (x_4 :: xs_5)).bind fun xs_7 => some (x_6 :: xs_7)).bind (few .lst)) else (((some (.str "end")).bind fun x_8 => (some []).bind fun xs_9 => some (x_8 :: xs_9)).bind (few .lst)))) fun b => okR ((some (.str "end")).bind fun y => (dEqF b.1 y).bind fun z => (asB z).map fun c => (c, b))) fun p => if p.1 = true then
    thenR (okR (some heard_3)) fun b => some (.ok (b, p.2.2))
  else
  thenR (apR heard_3 (ti1 fi p.2.2 (some earlier_2))) fun r1 =>
  thenR (whE (fun g : D × D => thenR (okR ((((some g.2).bind (dMt 0 "coming")).bind fun x_1 => (some []).bind fun xs => (on1 mc) (x_1 :: xs)).bind fun t2 => (some (.str "end")).bind fun t3 => (dNeF t2 t3).bind asB)) fun c => some (.ok (id c, g)))
    (fun g => thenR (okR ((((some g.1).bind fun t2 => ((some (.int 1)).bind dNeg).bind fun t3 => dIx t2 t3).bind fun t4 => (some (.int 1)).bind fun t5 => dAdd t4 t5).bind flatD)) fun st =>
      thenR (thenR ((some st).bind fun x => thenR (ti1 fi g.2 ((some earlier_2).bind fun t1 => (optI (some st)).bind fun t2 => (some none).bind fun t3 => dSl t1 t2 t3)) fun b => okR ((dAdd x b.1).map fun z => (z, b))) fun b => okR ((dApp g.1 b.1).map fun d' => (d', b))) fun r => some (.ok (r.1, r.2.2.2))) 1000 (r1.1, r1.2.2)) fun g =>
  thenR (tk1 ft g.2 (((some (.str "end")).bind fun x_53 => (some []).bind fun xs_54 => some (x_53 :: xs_54)).bind (few .lst))) fun b =>
  thenR (okR (some g.1)) fun b' => some (.ok (b', b.2))
noncomputable def e_read_heard : D → D → Rs (D × D) := r_read_heard m_Reader_coming e_Reader_take e_Reader_take_index
noncomputable def r_parse_house (kn : Nat) (mkR mkH : List D → Option D) (mwa mwc : D → Option D) (ft fn : D → D → Rs (D × D)) (fw : D → Rs (D × D)) (fh : D → D → Rs (D × D)) (fF : D → List D → Rs (D × D)) (text_1 : D) : Rs D :=
  thenR (okR (((some text_1).bind fun x_2 => (some []).bind fun xs_3 => some (x_2 :: xs_3)).bind mkR)) fun rd =>
  thenR (okR (some ())) fun _ =>
  thenR (tk1 ft rd (((some (.str "house")).bind fun x => (some []).bind fun xs => some (x :: xs)).bind (few .lst))) fun b0 =>
  thenR (whE (fun b : D × D × D × D => thenR (thenR (tk1 ft b.1 (((((some b.2.1).bind fun x_1 => (some []).bind fun xs_2 => some (x_1 :: xs_2)).bind (on1 dLen)).bind flatD |>.bind fun x_3 => (some []).bind fun xs_4 => some (x_3 :: xs_4)).bind (on1 mwa))) fun b' => okR ((some (.str "variable")).bind fun y => (dEqF b'.1 y).bind fun z => (asB z).map fun c => (c, b'))) fun g => some (.ok (g.1, (g.2.2, b.2))))
    (fun b => thenR (okR ((((some b.2.1).bind fun x_1 => (some []).bind fun xs_2 => some (x_1 :: xs_2)).bind (on1 dList)).bind flatL)) fun earlier =>
      thenR (apR b.2.1 (tn1 fn b.1 (some earlier))) fun r1 =>
      thenR (tk1 ft r1.2.2 (((some (.str "says")).bind fun x => (some []).bind fun xs => some (x :: xs)).bind (few .lst))) fun b1 =>
      thenR (apR b.2.2.1 ((some []).bind fun xs => own0E fw b1.2 xs)) fun r2 =>
      thenR (apR b.2.2.2 (((some earlier).bind fun x => (some []).bind fun xs => some (x :: xs)).bind fun xs => own1E fh r2.2.2 xs)) fun r3 =>
      some (.ok (r3.2.2, r1.1, r2.1, r3.1))) 1000 (b0.2, .lst [], .lst [], .lst [])) fun g =>
  thenR (fn1 fF g.1) fun b7 =>
  thenR (okR (((some g.2.1).bind fun x_5 => ((some g.2.2.1).bind fun x_3 => ((some g.2.2.2).bind fun x_1 => (some []).bind fun xs_2 => some (x_1 :: xs_2)).bind fun xs_4 => some (x_3 :: xs_4)).bind fun xs_6 => some (x_5 :: xs_6)).bind mkH)) fun house =>
  thenR (raiseIf ((((some house).bind fun x_1 => (some []).bind fun xs_2 => some (x_1 :: xs_2)).bind (on1 mwc)).bind fun t3 => (some (.int (512))).bind fun t4 => (dGt t3 t4).bind asB) (((((some (.int (512))).bind fun d_1 => (dFmt d_1).bind fun y_2 => ((some []).map ((" ways" : Str) :: ·)).map (y_2 :: ·)).map (("a house has at most " : Str) :: ·)).bind fun ys_3 => if (ys_3.map (·.length)).sum ≤ 100000 then some (D.str (ys_3.foldl (· ++ ·) Str.empty)) else none).bind fun _ => some (.error (.pl kn)))) fun _ =>
  thenR (okR (some house)) fun b => some (.ok b)
noncomputable def e_parse_house : D → Rs D := r_parse_house 3 mk_Reader mk_House m_words_after m_way_count e_Reader_take e_Reader_take_name e_read_words e_read_heard e_Reader_finish
noncomputable def m_law_is_integer (x_1 : D) : Option D := (((some x_1).bind (dIsi .int)).bind fun t4 => (asB t4).bind fun t5 => if t5 = true then (((some x_1).bind (dIsi .bool)).bind fun t2 => (asB t2).map fun t3 => .bl (!t3)) else some (.bl false))
noncomputable def r_law_told (kb kn : Nat) (f : List D → Rs D) (text_1 : D) : Option D :=
  ((some (.int 1)).bind dNeg).bind fun x => ((some text_1).bind fun x_2 => (some []).bind fun xs_3 => some (x_2 :: xs_3)).bind fun ds => (f ds).bind (toldR4 kb kn x)
noncomputable def m_law_told : D → Option D := r_law_told 2 3 (on1E e_parse_house)
noncomputable def m_law_new_word (row_1 : D) (words_2 : D) : Option D := ((((some (.str "A")).bind fun x_22 => ((some (.str "1a")).bind fun x_20 => ((some (.str "abcdefghijklm")).bind fun x_18 => ((some (.str "abcdefghijkl")).bind fun x_16 => ((some (.str "a1")).bind fun x_14 => ((some (.str "a_b")).bind fun x_12 => ((some (.str "a-1")).bind fun x_10 => ((some (.str "aB")).bind fun x_8 => ((some (.str "ends")).bind fun x_6 => ((some (.str "z")).bind fun x_4 => (some []).bind fun xs_5 => some (x_4 :: xs_5)).bind fun xs_7 => some (x_6 :: xs_7)).bind fun xs_9 => some (x_8 :: xs_9)).bind fun xs_11 => some (x_10 :: xs_11)).bind fun xs_13 => some (x_12 :: xs_13)).bind fun xs_15 => some (x_14 :: xs_15)).bind fun xs_17 => some (x_16 :: xs_17)).bind fun xs_19 => some (x_18 :: xs_19)).bind fun xs_21 => some (x_20 :: xs_21)).bind fun xs_23 => some (x_22 :: xs_23)).bind (few .lst)).bind fun odd_3 => (((((((some row_1).bind fun t24 => (some (.int 0)).bind fun t25 => dIx t24 t25).bind fun x_26 => (some []).bind fun xs_27 => some (x_26 :: xs_27)).bind (on1 dInt)).bind fun t28 => (some (.int 4)).bind fun t29 => dMod t28 t29).bind fun t30 => (some (.int 0)).bind fun t31 => (dEqF t30 t31).bind asB).bind fun c_32 => if c_32 = true then (((some []).bind (on0 (m_law_kept))).bind fun t39 => (((((some row_1).bind fun t33 => (some (.int 1)).bind fun t34 => dIx t33 t34).bind fun x_35 => (some []).bind fun xs_36 => some (x_35 :: xs_36)).bind (on1 dInt)).bind fun t37 => (some (.int 13)).bind fun t38 => dMod t37 t38).bind fun t40 => dIx t39 t40) else ((((((((some row_1).bind fun t41 => (some (.int 0)).bind fun t42 => dIx t41 t42).bind fun x_43 => (some []).bind fun xs_44 => some (x_43 :: xs_44)).bind (on1 dInt)).bind fun t45 => (some (.int 4)).bind fun t46 => dMod t45 t46).bind fun t47 => (some (.int 1)).bind fun t48 => (dEqF t47 t48).bind asB).bind fun c_49 => if c_49 = true then ((some words_2).bind dTru) else some false).bind fun c_50 => if c_50 = true then ((some words_2).bind fun t59 => (((((some row_1).bind fun t51 => (some (.int 1)).bind fun t52 => dIx t51 t52).bind fun x_53 => (some []).bind fun xs_54 => some (x_53 :: xs_54)).bind (on1 dInt)).bind fun t57 => (((some words_2).bind fun x_55 => (some []).bind fun xs_56 => some (x_55 :: xs_56)).bind (on1 dLen)).bind fun t58 => dMod t57 t58).bind fun t60 => dIx t59 t60) else (((((((some row_1).bind fun t61 => (some (.int 0)).bind fun t62 => dIx t61 t62).bind fun x_63 => (some []).bind fun xs_64 => some (x_63 :: xs_64)).bind (on1 dInt)).bind fun t65 => (some (.int 4)).bind fun t66 => dMod t65 t66).bind fun t67 => (some (.int 2)).bind fun t68 => (dEqF t67 t68).bind asB).bind fun c_69 => if c_69 = true then ((((some row_1).bind fun t70 => (optI (some (.int 2))).bind fun t71 => (some none).bind fun t72 => dSl t70 t71 t72).bind fun x_81 => ((((((some row_1).bind fun t73 => (some (.int 1)).bind fun t74 => dIx t73 t74).bind fun x_75 => (some []).bind fun xs_76 => some (x_75 :: xs_76)).bind (on1 dInt)).bind fun t77 => (some (.int 20)).bind fun t78 => dMod t77 t78).bind fun x_79 => (some []).bind fun xs_80 => some (x_79 :: xs_80)).bind fun xs_82 => some (x_81 :: xs_82)).bind (on2 (m_law_name))) else ((some odd_3).bind fun t89 => (((((some row_1).bind fun t83 => (some (.int 1)).bind fun t84 => dIx t83 t84).bind fun x_85 => (some []).bind fun xs_86 => some (x_85 :: xs_86)).bind (on1 dInt)).bind fun t87 => (some (.int 10)).bind fun t88 => dMod t87 t88).bind fun t90 => dIx t89 t90)))))
noncomputable def m_law_changed (words_1 : D) (row_2 : D) : Option D := ((((((some row_2).bind fun t4 => (some (.int 1)).bind fun t5 => dIx t4 t5).bind fun x_6 => (some []).bind fun xs_7 => some (x_6 :: xs_7)).bind (on1 dInt)).bind fun t12 => ((((some words_1).bind fun x_8 => (some []).bind fun xs_9 => some (x_8 :: xs_9)).bind (on1 dLen)).bind fun t10 => (some (.int 1)).bind fun t11 => dAdd t10 t11).bind fun t13 => dMod t12 t13).bind fun at_3 => (((((((some row_2).bind fun t14 => (some (.int 0)).bind fun t15 => dIx t14 t15).bind fun x_16 => (some []).bind fun xs_17 => some (x_16 :: xs_17)).bind (on1 dInt)).bind fun t18 => (some (.int 5)).bind fun t19 => dMod t18 t19).bind fun t20 => (some (.int 0)).bind fun t21 => (dEqF t20 t21).bind asB).bind fun c_22 => if c_22 = true then ((((some words_1).bind fun t23 => (some none).bind fun t24 => (optI (some at_3)).bind fun t25 => dSl t23 t24 t25).bind fun t35 => ((((((some row_2).bind fun t26 => (optI (some (.int 2))).bind fun t27 => (some none).bind fun t28 => dSl t26 t27 t28).bind fun x_31 => ((some words_1).bind fun x_29 => (some []).bind fun xs_30 => some (x_29 :: xs_30)).bind fun xs_32 => some (x_31 :: xs_32)).bind (on2 (m_law_new_word))).bind fun x_33 => (some []).bind fun xs_34 => some (x_33 :: xs_34)).bind (few .lst)).bind fun t36 => dCat t35 t36).bind fun t42 => ((some words_1).bind fun t39 => (optI ((some at_3).bind fun t37 => (some (.int 1)).bind fun t38 => dAdd t37 t38)).bind fun t40 => (some none).bind fun t41 => dSl t39 t40 t41).bind fun t43 => dCat t42 t43) else (((((((some row_2).bind fun t44 => (some (.int 0)).bind fun t45 => dIx t44 t45).bind fun x_46 => (some []).bind fun xs_47 => some (x_46 :: xs_47)).bind (on1 dInt)).bind fun t48 => (some (.int 5)).bind fun t49 => dMod t48 t49).bind fun t50 => (some (.int 1)).bind fun t51 => (dEqF t50 t51).bind asB).bind fun c_52 => if c_52 = true then (((some words_1).bind fun t53 => (some none).bind fun t54 => (optI (some at_3)).bind fun t55 => dSl t53 t54 t55).bind fun t61 => ((some words_1).bind fun t58 => (optI ((some at_3).bind fun t56 => (some (.int 1)).bind fun t57 => dAdd t56 t57)).bind fun t59 => (some none).bind fun t60 => dSl t58 t59 t60).bind fun t62 => dCat t61 t62) else (((((((some row_2).bind fun t63 => (some (.int 0)).bind fun t64 => dIx t63 t64).bind fun x_65 => (some []).bind fun xs_66 => some (x_65 :: xs_66)).bind (on1 dInt)).bind fun t67 => (some (.int 5)).bind fun t68 => dMod t67 t68).bind fun t69 => (some (.int 2)).bind fun t70 => (dEqF t69 t70).bind asB).bind fun c_71 => if c_71 = true then ((((some words_1).bind fun t72 => (some none).bind fun t73 => (optI (some at_3)).bind fun t74 => dSl t72 t73 t74).bind fun t84 => ((((((some row_2).bind fun t75 => (optI (some (.int 2))).bind fun t76 => (some none).bind fun t77 => dSl t75 t76 t77).bind fun x_80 => ((some words_1).bind fun x_78 => (some []).bind fun xs_79 => some (x_78 :: xs_79)).bind fun xs_81 => some (x_80 :: xs_81)).bind (on2 (m_law_new_word))).bind fun x_82 => (some []).bind fun xs_83 => some (x_82 :: xs_83)).bind (few .lst)).bind fun t85 => dCat t84 t85).bind fun t89 => ((some words_1).bind fun t86 => (optI (some at_3)).bind fun t87 => (some none).bind fun t88 => dSl t86 t87 t88).bind fun t90 => dCat t89 t90) else (((((((some row_2).bind fun t91 => (some (.int 0)).bind fun t92 => dIx t91 t92).bind fun x_93 => (some []).bind fun xs_94 => some (x_93 :: xs_94)).bind (on1 dInt)).bind fun t95 => (some (.int 5)).bind fun t96 => dMod t95 t96).bind fun t97 => (some (.int 3)).bind fun t98 => (dEqF t97 t98).bind asB).bind fun c_99 => if c_99 = true then ((((some words_1).bind fun t100 => (some none).bind fun t101 => (optI (some at_3)).bind fun t102 => dSl t100 t101 t102).bind fun t108 => ((some words_1).bind fun t105 => (optI (some at_3)).bind fun t106 => (optI ((some at_3).bind fun t103 => (some (.int 1)).bind fun t104 => dAdd t103 t104)).bind fun t107 => dSl t105 t106 t107).bind fun t109 => dCat t108 t109).bind fun t113 => ((some words_1).bind fun t110 => (optI (some at_3)).bind fun t111 => (some none).bind fun t112 => dSl t110 t111 t112).bind fun t114 => dCat t113 t114) else ((some words_1).bind fun t115 => (some none).bind fun t116 => (optI (some at_3)).bind fun t117 => dSl t115 t116 t117))))))
noncomputable def m_law_spaced (words_1 : D) (row_2 : D) : Option D := (((some (.str " ")).bind fun t10 => (((((some row_2).bind fun t4 => (some (.int 0)).bind fun t5 => dIx t4 t5).bind fun x_6 => (some []).bind fun xs_7 => some (x_6 :: xs_7)).bind (on1 dInt)).bind fun t8 => (some (.int 3)).bind fun t9 => dMod t8 t9).bind fun t11 => dMulT t10 t11).bind fun text_3 => ((((((some words_1).bind fun x_12 => (some []).bind fun xs_13 => some (x_12 :: xs_13)).bind (on1 dLen)).bind dRng1).bind fun xs => forS (fun x_46 (b_14 : D) => (some x_46).bind fun c_15 => ((((some c_15).bind fun t16 => (some (.int 0)).bind fun t17 => (dGt t16 t17).bind asB).bind fun c_18 => if c_18 = true then (((some b_14).bind fun t39 => ((some (.str " ")).bind fun t37 => ((some (.int 1)).bind fun t35 => ((((((some row_2).bind fun t25 => ((some (.int 1)).bind fun t23 => ((some c_15).bind fun t21 => (some (.int 5)).bind fun t22 => dMod t21 t22).bind fun t24 => dAdd t23 t24).bind fun t26 => dIx t25 t26).bind fun t29 => ((some (.int 1)).bind fun t27 => (some c_15).bind fun t28 => dAdd t27 t28).bind fun t30 => dFdiv t29 t30).bind fun x_31 => (some []).bind fun xs_32 => some (x_31 :: xs_32)).bind (on1 dInt)).bind fun t33 => (some (.int 3)).bind fun t34 => dMod t33 t34).bind fun t36 => dAdd t35 t36).bind fun t38 => dMulT t37 t38).bind fun t40 => dAdd t39 t40).bind fun text_20 => (some text_20)) else (some b_14)).bind fun s_19 => (((some s_19).bind fun t44 => ((some words_1).bind fun t42 => (some c_15).bind fun t43 => dIx t42 t43).bind fun t45 => dAdd t44 t45).bind fun text_41 => (some text_41)))) xs text_3).bind fun s_47 => ((some s_47).bind fun t56 => ((some (.str " ")).bind fun t54 => (((((some row_2).bind fun t48 => (some (.int 6)).bind fun t49 => dIx t48 t49).bind fun x_50 => (some []).bind fun xs_51 => some (x_50 :: xs_51)).bind (on1 dInt)).bind fun t52 => (some (.int 3)).bind fun t53 => dMod t52 t53).bind fun t55 => dMulT t54 t55).bind fun t57 => dAdd t56 t57)))
noncomputable def m_law_same : Nat → D → D → Option D
  | 0, _, _ => none
  | fuel + 1, actual_1, due_2 => (((((some due_2).bind (dIsi .list)).bind asB).bind fun c_3 => if c_3 = true then some true else (((some due_2).bind (dIsi .tuple)).bind asB)).bind fun c_4 => if c_4 = true then (((((some actual_1).bind (dIsi .list)).bind fun t5 => ((some due_2).bind (dIsi .list)).bind fun t6 => (dNeF t5 t6).bind asB).bind fun c_9 => if c_9 = true then some true else (((some actual_1).bind (dIsi .tuple)).bind fun t7 => ((some due_2).bind (dIsi .tuple)).bind fun t8 => (dNeF t7 t8).bind asB)).bind fun c_10 => if c_10 = true then (some (.bl false)) else (((((some actual_1).bind fun x_11 => (some []).bind fun xs_12 => some (x_11 :: xs_12)).bind (on1 dLen)).bind fun t15 => (((some due_2).bind fun x_13 => (some []).bind fun xs_14 => some (x_13 :: xs_14)).bind (on1 dLen)).bind fun t16 => (dNeF t15 t16).bind asB).bind fun c_17 => if c_17 = true then (some (.bl false)) else ((((((some due_2).bind fun x_18 => (some []).bind fun xs_19 => some (x_18 :: xs_19)).bind (on1 dLen)).bind dRng1).bind fun xs => forF (γ := Empty) (fun x_32 (b_20 : Unit) => (some x_32).bind fun c_21 => (((((((some actual_1).bind fun t22 => (some c_21).bind fun t23 => dIx t22 t23).bind fun x_28 => (((some due_2).bind fun t24 => (some c_21).bind fun t25 => dIx t24 t25).bind fun x_26 => (some []).bind fun xs_27 => some (x_26 :: xs_27)).bind fun xs_29 => some (x_28 :: xs_29)).bind (on2 (m_law_same fuel))).bind asB).map fun b_30 => !b_30).bind fun c_31 => if c_31 = true then ((((some (.bl false)).map Fl.rt) : Option (Fl Empty (Unit)))).bind (flE (β := Unit)) else (some (Fl.nx ())))) xs ()).bind (flT fun s_33 => (some (.bl true)))))) else ((((some due_2).bind (dIsi .bool)).bind asB).bind fun c_34 => if c_34 = true then (((some actual_1).bind (dIsi .bool)).bind fun t37 => (asB t37).bind fun t38 => if t38 = true then ((some actual_1).bind fun t35 => (some due_2).bind fun t36 => dEq t35 t36) else some (.bl false)) else ((((some due_2).bind (dIsi .int)).bind asB).bind fun c_39 => if c_39 = true then ((((some actual_1).bind fun x_40 => (some []).bind fun xs_41 => some (x_40 :: xs_41)).bind (on1 (m_law_is_integer))).bind fun t44 => (asB t44).bind fun t45 => if t45 = true then ((some actual_1).bind fun t42 => (some due_2).bind fun t43 => dEq t42 t43) else some (.bl false)) else (((some actual_1).bind (dIsi .str)).bind fun t48 => (asB t48).bind fun t49 => if t49 = true then ((some actual_1).bind fun t46 => (some due_2).bind fun t47 => dEq t46 t47) else some (.bl false)))))
noncomputable def m_law_same_house (actual_1 : D) (house_2 : D) : Option D := (((((some actual_1).bind (dIsO 1)).bind asB).map fun b_3 => !b_3).bind fun c_4 => if c_4 = true then (some (.bl false)) else (((((some actual_1).bind (dFld 1 "names")).bind fun x_9 => (((some house_2).bind fun t5 => (some (.int 0)).bind fun t6 => dIx t5 t6).bind fun x_7 => (some []).bind fun xs_8 => some (x_7 :: xs_8)).bind fun xs_10 => some (x_9 :: xs_10)).bind (on2 (m_law_same 12))).bind fun t25 => (asB t25).bind fun t26 => if t26 = true then (((((some actual_1).bind (dFld 1 "words")).bind fun x_15 => (((some house_2).bind fun t11 => (some (.int 1)).bind fun t12 => dIx t11 t12).bind fun x_13 => (some []).bind fun xs_14 => some (x_13 :: xs_14)).bind fun xs_16 => some (x_15 :: xs_16)).bind (on2 (m_law_same 12))).bind fun t23 => (asB t23).bind fun t24 => if t24 = true then ((((some actual_1).bind (dFld 1 "heard")).bind fun x_21 => (((some house_2).bind fun t17 => (some (.int 2)).bind fun t18 => dIx t17 t18).bind fun x_19 => (some []).bind fun xs_20 => some (x_19 :: xs_20)).bind fun xs_22 => some (x_21 :: xs_22)).bind (on2 (m_law_same 12))) else some (.bl false)) else some (.bl false)))
noncomputable def m_law (script_1 : D) : Option D := ((((some script_1).bind fun x_7 => ((some (.int 8)).bind fun x_5 => ((some (.int 10)).bind fun x_3 => (some []).bind fun xs_4 => some (x_3 :: xs_4)).bind fun xs_6 => some (x_5 :: xs_6)).bind fun xs_8 => some (x_7 :: xs_8)).bind (on3 (m_law_row))).bind fun row_2 => ((((some script_1).bind fun x_32 => ((some (.int 0)).bind fun x_30 => (((((some (.int 600)).bind fun x_18 => ((some (.int 5000)).bind fun x_16 => (((some (.int 10)).bind fun t10 => (some (.int 12)).bind fun t11 => dPow t10 t11).bind fun x_14 => ((some (.int 512)).bind fun x_12 => (some []).bind fun xs_13 => some (x_12 :: xs_13)).bind fun xs_15 => some (x_14 :: xs_15)).bind fun xs_17 => some (x_16 :: xs_17)).bind fun xs_19 => some (x_18 :: xs_19)).bind (few .lst)).bind fun t26 => (((((some row_2).bind fun t20 => (some (.int 9)).bind fun t21 => dIx t20 t21).bind fun x_22 => (some []).bind fun xs_23 => some (x_22 :: xs_23)).bind (on1 dInt)).bind fun t24 => (some (.int 4)).bind fun t25 => dMod t24 t25).bind fun t27 => dIx t26 t27).bind fun x_28 => (some []).bind fun xs_29 => some (x_28 :: xs_29)).bind fun xs_31 => some (x_30 :: xs_31)).bind fun xs_33 => some (x_32 :: xs_33)).bind (on3 (m_law_house))).bind fun house_9 => ((((some house_9).bind fun x_35 => (some []).bind fun xs_36 => some (x_35 :: xs_36)).bind (on1 (m_law_text_words))).bind fun words_34 => ((((((((some row_2).bind fun t37 => (some (.int 8)).bind fun t38 => dIx t37 t38).bind fun x_39 => (some []).bind fun xs_40 => some (x_39 :: xs_40)).bind (on1 dInt)).bind fun t41 => (some (.int 3)).bind fun t42 => dMod t41 t42).bind dRng1).bind fun xs => forS (fun x_58 (b_43 : D) => (some x_58).bind fun c_44 => ((((some b_43).bind fun x_56 => ((((some script_1).bind fun x_52 => (((some (.int 9)).bind fun t46 => (some c_44).bind fun t47 => dAdd t46 t47).bind fun x_50 => ((some (.int 20)).bind fun x_48 => (some []).bind fun xs_49 => some (x_48 :: xs_49)).bind fun xs_51 => some (x_50 :: xs_51)).bind fun xs_53 => some (x_52 :: xs_53)).bind (on3 (m_law_row))).bind fun x_54 => (some []).bind fun xs_55 => some (x_54 :: xs_55)).bind fun xs_57 => some (x_56 :: xs_57)).bind (on2 (m_law_changed))).bind fun words_45 => (some words_45))) xs words_34).bind fun s_59 => (((((some s_59).bind fun x_61 => (some []).bind fun xs_62 => some (x_61 :: xs_62)).bind (on1 (m_law_read))).bind dUn2).bind fun c_60 => (((((some c_60.1).bind fun t63 => ((some (.int 1)).bind dNeg).bind fun t64 => (dEqF t63 t64).bind asB).bind fun c_80 => if c_80 = true then (((((((some c_60.2).bind fun t65 => (some (.int 1)).bind fun t66 => dIx t65 t66).bind asL).bind fun xs => (capD xs).bind fun xs => (compD (fun x_70 => (some x_70).bind fun c_67 => (some true).bind fun b_71 => if b_71 = true then (((some c_67).bind fun x_68 => (some []).bind fun xs_69 => some (x_68 :: xs_69)).bind (on1 dLen)).map some else some none) xs).map .lst).bind fun x_76 => (((some c_60.2).bind fun t72 => (some (.int 2)).bind fun t73 => dIx t72 t73).bind fun x_74 => (some []).bind fun xs_75 => some (x_74 :: xs_75)).bind fun xs_77 => some (x_76 :: xs_77)).bind (on2 (m_law_count_ways))).bind fun t78 => (some (.int 512)).bind fun t79 => (dGt t78 t79).bind asB) else some false).bind fun c_81 => if c_81 = true then (((some (.int 2)).bind dNeg).bind fun wrong_83 => (some wrong_83)) else (some c_60.1)).bind fun s_82 => (((((((some s_59).bind fun x_87 => ((some row_2).bind fun x_85 => (some []).bind fun xs_86 => some (x_85 :: xs_86)).bind fun xs_88 => some (x_87 :: xs_88)).bind (on2 (m_law_spaced))).bind fun x_89 => (some []).bind fun xs_90 => some (x_89 :: xs_90)).bind (on1 (m_law_told))).bind dUn2).bind fun c_84 => (((some c_84.1).bind fun t91 => (some s_82).bind fun t92 => (dNeF t91 t92).bind asB).bind fun c_93 => if c_93 = true then (some (.bl false)) else (((some s_82).bind fun t94 => ((some (.int 1)).bind dNeg).bind fun t95 => dNeF t94 t95).bind fun t100 => (asB t100).bind fun t101 => if t101 = true then some (.bl true) else (((some c_84.2).bind fun x_98 => ((some c_60.2).bind fun x_96 => (some []).bind fun xs_97 => some (x_96 :: xs_97)).bind fun xs_99 => some (x_98 :: xs_99)).bind (on2 (m_law_same_house))))))))))))
end Oh
/-! the head by facts: what the layer asks, from what the hook says -/
namespace HdL
open PySem PySem.Spec PyProof.Rows L2 Evl Oh He
section
variable {K : PySem.W.Frag} {fa : List Fa} {fn : List DefD} {h : Heap} {mg : Str → Option Value}
theorem def_at (c : SaysD fa fn K) (i : Nat) {p : Str × Option Str} {x qual : Str} {st : Stmt} (hi : fn[i]? = some ⟨p, x, qual, defArgs st, defBody st, defScope st, [], []⟩) :
    ∃ (oc : Value) (od : Option Addr) (kV doc pm : Value) (an : Option Addr) (cdv ct : Value) (osl : Array (Option Value)),
      K.lookup (fAd K p) = some ⟨oc, od, .func (PySem.W.fnOf x qual (defArgs st) (defBody st) (defScope st) .none kV doc pm an cdv ct), osl⟩ ∧ PySem.W.codeIn K cdv qual = true ∧ PySem.W.keepIn K (.ref (fAd K p)) = true := by
  obtain ⟨fd, ⟨oc, od, dV, kV, doc, pm, an, cdv, ct, osl, rfl, lk, hcd, hd, _⟩, kp⟩ := c.def_ i hi
  have e : dV = .none := by
    rcases hd with ⟨_, e⟩ | ⟨n, _⟩
    · exact e
    · exact absurd rfl n
  subst e
  exact ⟨oc, od, kV, doc, pm, an, cdv, ct, osl, lk, hcd, kp⟩
theorem fun_at (c : SaysD fa fn K) (i : Nat) {p : Str × Option Str} {x qual : Str} {st : Stmt} (hi : fn[i]? = some ⟨p, x, qual, defArgs st, defBody st, defScope st, [], []⟩) :
    ∃ fd, Fun K x qual st (fAd K p) fd := by
  obtain ⟨oc, od, kV, doc, pm, an, cdv, ct, osl, lk, hcd, kp⟩ := def_at c i hi
  exact ⟨_, ⟨oc, od, kV, doc, pm, an, cdv, ct, osl, rfl, lk, hcd⟩, kp⟩
theorem fun_last (c : SaysD fa fn K) (i : Nat) {p : Str × Option Str} {x qual : Str} {st : Stmt} (hi : fn[i]? = some ⟨p, x, qual, defArgs st, defBody st, defScope st, [], []⟩) :
    ∃ (oc : Value) (od : Option Addr) (kV doc pm : Value) (an : Option Addr) (cdv ct : Value) (osl : Array (Option Value)),
      Fun K x qual st (fAd K p) (PySem.W.fnOf x qual (defArgs st) (defBody st) (defScope st) .none kV doc pm an cdv ct) := by
  obtain ⟨oc, od, kV, doc, pm, an, cdv, ct, osl, lk, hcd, kp⟩ := def_at c i hi
  exact ⟨oc, od, kV, doc, pm, an, cdv, ct, osl, ⟨oc, od, kV, doc, pm, an, cdv, ct, osl, rfl, lk, hcd⟩, kp⟩
theorem fun_atC (c : SaysD fa fn K) (i : Nat) {p : Str × Option Str} {x qual : Str} {st : Stmt} (hi : fn[i]? = some ⟨p, x, qual, defArgs st, defBody st, defScope st, [], []⟩) :
    ∃ fd, FunC K x qual st (fAd K p) fd (cT K p).1 := by
  obtain ⟨oc, od, kV, doc, pm, an, cdv, ct, osl, lk, hcd, kp⟩ := def_at c i hi
  obtain ⟨a, rfl⟩ := codeIn_ref hcd
  have e : codeOf K p = a := codeOf_eq lk rfl
  show ∃ fd, FunC K x qual st (fAd K p) fd (codeOf K p)
  rw [e]
  exact ⟨_, fun_mkC lk hcd kp⟩
theorem gt_at {x : Str} {vs : List Dv} {ds : List D} (g : mg x = some (.ref (ga K x))) (hf : ds.all flatB = true) (h : He.tupB K x vs = true) (e : ds.map vD = vs.map (Dv.v K)) : GT K mg x (ga K x) ds := by
  refine ⟨g, hf, ?_⟩
  unfold He.tupB at h
  cases q : K.lookup (ga K x) with
  | none =>
    rw [q] at h
    cases h
  | some o =>
    obtain ⟨oc, od, dt, osl⟩ := o
    rw [q] at h
    cases oc with
    | type c =>
      cases dt with
      | seq its n =>
        obtain ⟨h1, h2⟩ := ba (show (decide (c = "tuple") && (decide (its.size ≤ sizeLine) && relAll (vs.map (Dv.v K)) its.toList)) = true from h)
        obtain ⟨h3, h4⟩ := ba h2
        exact ⟨_, its, n, rfl, congrArg Value.type (of_decide_eq_true h1), rfl, of_decide_eq_true h3, by rw [e]; exact relAll_ok h4⟩
      | _ => cases h
    | _ => cases dt <;> cases h
theorem isi_at {C : Addr} (h : (eqO (PySem.W.findIn K (.ref C) "__class__") (some (some (.builtin "object.__class__"))) && (eqO (PySem.W.specialIn K (.builtin "object.__class__") "__get__") (some (some (.builtin "getset_descriptor.__get__"))) && (decide (PySem.W.takesIn K (.builtin "object.__class__") = some true) && decide (PySem.W.mroIn K C (.type "object") = some true)))) = true) : IsiF K C := by
  obtain ⟨h1, h⟩ := ba h
  obtain ⟨h2, h⟩ := ba h
  obtain ⟨h3, h4⟩ := ba h
  exact ⟨eqO_ok h1, eqO_ok h2, of_decide_eq_true h3, of_decide_eq_true h4⟩
theorem tabs_at {tf : List Defn} (X : K.In h) (hd : ∀ p ∈ tf, PySem.W.codeHdIn K (cT K p).1 (cT K p).2 = true) (em : ∀ p ∈ tf, h.get? (cT K p).2 = some { cls := .none, data := .fields #[] }) :
    ∀ p ∈ tf.map (cT K), PySem.W.CodeHd h p.1 p.2 ∧ h.get? p.2 = some { cls := .none, data := .fields #[] } := fun p hp => by
  obtain ⟨q, hq, rfl⟩ := List.mem_map.mp hp
  exact ⟨PySem.W.codeHd_of_K X (hd q hq), em q hq⟩
theorem outs_at {tf : List Defn} (o : ∀ p ∈ tf, K.lookup (cT K p).2 = none) : ∀ p ∈ tf.map (cT K), K.lookup p.2 = none := fun p hp => by
  obtain ⟨q, hq, rfl⟩ := List.mem_map.mp hp
  exact o q hq
end
end HdL
namespace Oh
open PySem PySem.Spec PyProof.Rows L2 Evl NdefX LamX
noncomputable def topS (i : Nat) : Stmt := PySem.Challenge.pw_otherhow_k04_house_refused_at_its_word.main.body.getD i (.Pass ⟨0, 0, 0, 0⟩)
structure Bi (mg : Str → Option Value) : Prop where
  ValueError : mg "ValueError" = none
  all : mg "all" = none
  bool : mg "bool" = none
  int : mg "int" = none
  isinstance : mg "isinstance" = none
  len : mg "len" = none
  list : mg "list" = none
  max : mg "max" = none
  range : mg "range" = none
  str : mg "str" = none
  super : mg "super" = none
  tuple : mg "tuple" = none
structure Tx (K : PySem.W.Frag) (cl : Cl) : Prop where
  Reader : ClsF K (cl.c 0) ["words", "at"]
  House : ClsF K (cl.c 1) ["names", "words", "heard"]
structure Ti (K : PySem.W.Frag) (cl : Cl) (mg : Str → Option Value) : Prop where
  House : IsiF K (cl.c 1)
  House_mg : mg "House" = some (.ref (cl.c 1))
structure Gx (K : PySem.W.Frag) (mg : Str → Option Value) (az : Nat → Addr) (zv : Nat → Value) : Prop where
  LETTERS : GS mg "LETTERS" (zv 0) (.str "abcdefghijklmnopqrstuvwxyz")
  DIGITS : GS mg "DIGITS" (zv 1) (.str "0123456789")
  NOT_NAMES : GT K mg "NOT_NAMES" (az 2) [(.str "house"), (.str "variable"), (.str "says"), (.str "hears"), (.str "end"), (.str "if"), (.str "and"), (.str "ignores"), (.str "rises"), (.str "falls"), (.str "with"), (.str "never"), (.str "when")]
  MOST_VARIABLES : GS mg "MOST_VARIABLES" (zv 3) (.int 5)
  MOST_WAYS : GS mg "MOST_WAYS" (zv 4) (.int 512)
section
variable {P : Program} {w : World} {K : PySem.W.Frag} {cl : Cl} {mg : Str → Option Value} {base : Heap} {az : Nat → Addr} {zv : Nat → Value} {cC cB cT cU gT0 gT1 : Addr}
/-! _law_row -/
noncomputable abbrev s_law_row : Stmt := topS 26
noncomputable abbrev n_law_row : List Str := ["script", "place", "many", "cell", "rest", "row", "k", "mixed"]
theorem sc_law_row : FnScope n_law_row ["script", "place", "many"] (defScope s_law_row) := ⟨rfl, rfl, rfl, by decide +kernel, rfl, by decide +kernel, by decide +kernel⟩
theorem ok_law_row {fa : Addr} {fd : FuncData} (F : Fun K "_law_row" "_law_row" s_law_row fa fd) (hm : mg "_law_row" = some (.ref fa)) (hb : Binds K fd ["script", "place", "many"] []) (bl : Bi mg) (gx : Gx K mg az zv) (ti : Ti K cl mg) (tx : Tx K cl)  : Con P w K cl mg base 1 "_law_row" (on3 (m_law_row)) fa fd ["script", "place", "many"] := by
  refine fun_con (k := 0) F sc_law_row rfl ar3 hm hb (fun cdv A outer s H E hr => ?_)
  have nd := sc_law_row.nd
  refine ⟨_, (pss_cons (ps_set (i := 3) nd rfl (by first | exact Or.inl rfl | exact Or.inr rfl) (pe_op op_addD (pe_op op_mulD pe_int (pv 1)) pe_int)) (pss_cons (ps_if (pt_cmpR op_lt (pv 1) (pe_callB (lenK K) (by rfl) bl.len (by decide +kernel) (pa_cons (pv 0) pa_nil)) (nomark _)) (pss_cons (ps_set (i := 3) nd rfl (by first | exact Or.inl rfl | exact Or.inr rfl) (pe_ix (ixK K) (pv 0) (pv 1) (fun _ _ => rfl))) pss_nil) pss_nil) (pss_cons (ps_set (i := 4) nd rfl (by first | exact Or.inl rfl | exact Or.inr rfl) (pe_op op_sub (pv 3) (pe_op op_pow pe_int pe_int))) (pss_cons (ps_set (i := 5) nd rfl (by first | exact Or.inl rfl | exact Or.inr rfl) (pe_lst pa_nil)) (pss_cons (ps_for PassesOwn.never rfl (pi_range1 (by rfl) bl.range (pa_cons (pv 2) pa_nil)) (pg_name (i := 6) nd rfl (by first | exact Or.inl rfl | exact Or.inr rfl)) (pss_cons (ps_if (pt_cmpR op_gt (pv 4) pe_int (nomark _)) (pss_cons (ps_expr (bmK K PySem.F.plainAttrs_list PySem.F.slot_list_append PySem.F.type_list_append mt_append (pv 5) (pa_cons (pe_op op_mod (pe_callTy call_int1 (by rfl) bl.int (by decide +kernel) (pa_cons (pv 4) pa_nil)) pe_int) pa_nil))) (pss_cons (ps_set (i := 4) nd rfl (by first | exact Or.inl rfl | exact Or.inr rfl) (pe_op op_fdivP (pv 4) pe_int)) pss_nil)) (pss_cons (ps_set (i := 7) nd rfl (by first | exact Or.inl rfl | exact Or.inr rfl) (pe_op op_mod (pe_callTy call_int1 (by rfl) bl.int (by decide +kernel) (pa_cons (pe_op op_addD (pe_op op_addD (pe_op op_mulD (pv 3) pe_int) (pe_op op_mulD (pv 6) pe_int)) pe_int) pa_nil)) pe_int)) (pss_cons (ps_set (i := 7) nd rfl (by first | exact Or.inl rfl | exact Or.inr rfl) (pe_op op_mod (pe_callTy call_int1 (by rfl) bl.int (by decide +kernel) (pa_cons (pe_op op_addD (pe_op op_addD (pe_op op_mulD (pv 7) (pv 7)) (pe_op op_mulD (pv 7) pe_int)) (pe_op op_mulD (pv 6) pe_int)) pa_nil)) pe_int)) (pss_cons (ps_expr (bmK K PySem.F.plainAttrs_list PySem.F.slot_list_append PySem.F.type_list_append mt_append (pv 5) (pa_cons (pe_op op_mod (pe_op op_fdivP (pv 7) pe_int) pe_int) pa_nil))) pss_nil)))) pss_nil)) (pss_cons (ps_ret (pv 5)) pss_never)))))), ?_⟩
  exact all3 fun script_1 place_2 many_3 => (tv_cons (sv_asg (i := 3) (ev_op o_add (ev_op o_mul ev_int (ev_v (i := 1) (d := place_2) rfl)) ev_int)) (fun cell_4 => (tv_cons (sv_if (post := (fun (b : D) => [.vl script_1, .vl place_2, .vl many_3, .vl b, .jk, .jk, .jk, .jk])) (et_op o_lt (ev_v (i := 1) (d := place_2) rfl) (ev_cb o_len (ea_cons (ev_v (i := 0) (d := script_1) rfl) ea_nil))) (sv_cons (sv_asg (i := 3) (ev_op o_ix (ev_v (i := 0) (d := script_1) rfl) (ev_v (i := 1) (d := place_2) rfl))) (fun cell_15 => (sv_nil cell_15 (.same (.same (.same (.same (.same (.same (.same (.same .nil))))))))))) (sv_nil cell_4 (.same (.same (.same (.same (.same (.same (.same (.same .nil)))))))))) (fun s_14 => (tv_cons (sv_asg (i := 4) (ev_op o_sub (ev_v (i := 3) (d := s_14) rfl) (ev_op o_pow ev_int ev_int))) (fun rest_18 => (tv_cons (sv_asgN (i := 5) (evn_lst ea_nil)) (fun row_23 => (tv_cons (sv_for (f := some) (inv := (fun (b : D × D) => [.vl script_1, .vl place_2, .vl many_3, .vl s_14, .vl b.2, .ow (.l .v) b.1, .jk, .jk])) (row_23, rest_18) (iv_rng1 (ev_v (i := 2) (d := many_3) rfl)) (.same (.same (.same (.same (.same (.same (.same (.same .nil)))))))) gv_name (fun c_25 b_24 => (sv_cons (sv_if (post := (fun (b : D × D) => [.vl script_1, .vl place_2, .vl many_3, .vl s_14, .vl b.2, .ow (.l .v) b.1, .vl c_25, .jk])) (et_op o_gt (ev_v (i := 4) (d := b_24.2) rfl) ev_int) (sv_cons (sv_app (i := 5) (d := b_24.1) rfl rfl (ev_op o_mod (ev_cb o_int (ea_cons (ev_v (i := 4) (d := b_24.2) rfl) ea_nil)) ev_int)) (fun row_35 => (sv_cons (sv_asg (i := 4) (ev_op o_fdiv (ev_v (i := 4) (d := b_24.2) rfl) ev_int)) (fun rest_36 => (sv_nil (row_35, rest_36) (.same (.same (.same (.same (.same (.same (.same (.same .nil))))))))))))) (sv_cons (sv_asg (i := 7) (ev_op o_mod (ev_cb o_int (ea_cons (ev_op o_add (ev_op o_add (ev_op o_mul (ev_v (i := 3) (d := s_14) rfl) ev_int) (ev_op o_mul (ev_v (i := 6) (d := c_25) rfl) ev_int)) ev_int) ea_nil)) ev_int)) (fun mixed_39 => (sv_cons (sv_asg (i := 7) (ev_op o_mod (ev_cb o_int (ea_cons (ev_op o_add (ev_op o_add (ev_op o_mul (ev_v (i := 7) (d := mixed_39) rfl) (ev_v (i := 7) (d := mixed_39) rfl)) (ev_op o_mul (ev_v (i := 7) (d := mixed_39) rfl) ev_int)) (ev_op o_mul (ev_v (i := 6) (d := c_25) rfl) ev_int)) ea_nil)) ev_int)) (fun mixed_52 => (sv_cons (sv_app (i := 5) (d := b_24.1) rfl rfl (ev_op o_mod (ev_op o_fdiv (ev_v (i := 7) (d := mixed_52) rfl) ev_int) ev_int)) (fun row_72 => (sv_nil (row_72, b_24.2) (.same (.same (.same (.same (.same (.same (.same (.drop .nil)))))))))))))))) (fun s_29 => (sv_nil (s_29.1, s_29.2) (.same (.same (.same (.same (.same (.same (.drop (.same .nil))))))))))))) (fun s_74 => (tv_ret (ev_pre (i := 5) (d := s_74.1) rfl (ev_v (i := 5) (d := s_74.1) rfl)))))))))))))
/-! _law_size -/
noncomputable abbrev s_law_size : Stmt := topS 27
noncomputable abbrev n_law_size : List Str := ["bounds", "many", "bound"]
theorem sc_law_size : FnScope n_law_size ["bounds"] (defScope s_law_size) := ⟨rfl, rfl, rfl, by decide +kernel, rfl, by decide +kernel, by decide +kernel⟩
theorem ok_law_size {fa : Addr} {fd : FuncData} (F : Fun K "_law_size" "_law_size" s_law_size fa fd) (hm : mg "_law_size" = some (.ref fa)) (hb : Binds K fd ["bounds"] []) (bl : Bi mg) (gx : Gx K mg az zv) (ti : Ti K cl mg) (tx : Tx K cl)  : Con P w K cl mg base 1 "_law_size" (on1 (m_law_size)) fa fd ["bounds"] := by
  refine fun_con (k := 0) F sc_law_size rfl ar1 hm hb (fun cdv A outer s H E hr => ?_)
  have nd := sc_law_size.nd
  refine ⟨_, (pss_cons (ps_set (i := 1) nd rfl (by first | exact Or.inl rfl | exact Or.inr rfl) pe_int) (pss_cons (ps_for PassesOwn.never rfl (listIK K (pv 0)) (pg_name (i := 2) nd rfl (by first | exact Or.inl rfl | exact Or.inr rfl)) (pss_cons (ps_set (i := 1) nd rfl (by first | exact Or.inl rfl | exact Or.inr rfl) (pe_op op_mulD (pv 1) (pv 2))) pss_nil)) (pss_cons (ps_ret (pv 1)) pss_never))), ?_⟩
  exact all1 fun bounds_1 => (tv_cons (sv_asg (i := 1) ev_int) (fun many_2 => (tv_cons (sv_for (f := some) (inv := (fun (b : D) => [.vl bounds_1, .vl b, .jk])) many_2 (iv_list (ev_v (i := 0) (d := bounds_1) rfl)) (.same (.same (.same .nil))) gv_name (fun c_4 b_3 => (sv_cons (sv_asg (i := 1) (ev_op o_mul (ev_v (i := 1) (d := b_3) rfl) (ev_v (i := 2) (d := c_4) rfl))) (fun many_5 => (sv_nil many_5 (.same (.same (.drop .nil)))))))) (fun s_9 => (tv_ret (ev_v (i := 1) (d := s_9) rfl))))))
/-! _law_count_ways -/
noncomputable abbrev s_law_count_ways : Stmt := topS 31
noncomputable abbrev n_law_count_ways : List Str := ["counts", "heard", "many", "v", "n", "u"]
theorem sc_law_count_ways : FnScope n_law_count_ways ["counts", "heard"] (defScope s_law_count_ways) := ⟨rfl, rfl, rfl, by decide +kernel, rfl, by decide +kernel, by decide +kernel⟩
theorem ok_law_count_ways {fa : Addr} {fd : FuncData} (F : Fun K "_law_count_ways" "_law_count_ways" s_law_count_ways fa fd) (hm : mg "_law_count_ways" = some (.ref fa)) (hb : Binds K fd ["counts", "heard"] []) (bl : Bi mg) (gx : Gx K mg az zv) (ti : Ti K cl mg) (tx : Tx K cl) {f0 : Addr} {fd0 : FuncData} (C_law_size : Con P w K cl mg base 1 "_law_size" (on1 (m_law_size)) f0 fd0 ["bounds"]) : Con P w K cl mg base 2 "_law_count_ways" (on2 (m_law_count_ways)) fa fd ["counts", "heard"] := by
  refine fun_con (k := 1) F sc_law_count_ways rfl ar2 hm hb (fun cdv A outer s H E hr => ?_)
  have nd := sc_law_count_ways.nd
  refine ⟨_, (pss_cons (ps_set (i := 2) nd rfl (by first | exact Or.inl rfl | exact Or.inr rfl) pe_int) (pss_cons (ps_for PassesOwn.never rfl (pi_range1 (by rfl) bl.range (pa_cons (pe_callB (lenK K) (by rfl) bl.len (by decide +kernel) (pa_cons (pv 0) pa_nil)) pa_nil)) (pg_name (i := 3) nd rfl (by first | exact Or.inl rfl | exact Or.inr rfl)) (pss_cons (ps_for PassesOwn.never rfl (pi_range1 (by rfl) bl.range (pa_cons (pe_call C_law_size.ok (hr.mono (by omega)) (by rfl) C_law_size.mg C_law_size.kp C_law_size.bd .nil pass0 (pa_cons (pe_lc (own := [("u", 5)]) (g := (gName 5)) (tt := tYes) rfl nd (listIK K (pe_ix (ixK K) (pv 1) (pv 3) (fun _ _ => rfl))) (blkOk_by (N := n_law_count_ways) (sc := defScope s_law_count_ways) (by decide +kernel)) (fun _ _ _ _ _ => pg_name (i := 5) nd rfl (by first | exact Or.inl rfl | exact Or.inr rfl)) (fun _ _ _ _ _ => pts_nil) (fun _ _ _ _ _ => (pe_ix (ixK K) (pv 0) (pv 5) (fun _ _ => rfl)))) pa_nil)) pa_nil)) (pg_name (i := 4) nd rfl (by first | exact Or.inl rfl | exact Or.inr rfl)) (pss_cons (ps_set (i := 2) nd rfl (by first | exact Or.inl rfl | exact Or.inr rfl) (pe_op op_mulD (pv 2) (pe_ix (ixK K) (pv 0) (pv 3) (fun _ _ => rfl)))) pss_nil)) pss_nil)) (pss_cons (ps_ret (pv 2)) pss_never))), ?_⟩
  exact all2 fun counts_1 heard_2 => (tv_cons (sv_asg (i := 2) ev_int) (fun many_3 => (tv_cons (sv_for (f := some) (inv := (fun (b : D) => [.vl counts_1, .vl heard_2, .vl b, .jk, .jk, .jk])) many_3 (iv_rng1 (ev_cb o_len (ea_cons (ev_v (i := 0) (d := counts_1) rfl) ea_nil))) (.same (.same (.same (.same (.same (.same .nil)))))) gv_name (fun c_7 b_6 => (sv_cons (sv_for (f := some) (inv := (fun (b : D) => [.vl counts_1, .vl heard_2, .vl b, .vl c_7, .jk, .jk])) b_6 (iv_rng1 (ev_call (ea_cons ((evn_lc (f := some) (iv_list (ev_op o_ix (ev_v (i := 1) (d := heard_2) rfl) (ev_v (i := 3) (d := c_7) rfl))) gv_name (gw_name (by decide)) (fun c_10 => et_yes) (fun c_10 => (ev_op o_ix (ev_v (i := 0) (d := counts_1) rfl) (ev_v (i := 5) (d := c_10) rfl))))).ev ea_nil))) (.same (.same (.same (.same (.same (.same .nil)))))) gv_name (fun c_18 b_17 => (sv_cons (sv_asg (i := 2) (ev_op o_mul (ev_v (i := 2) (d := b_17) rfl) (ev_op o_ix (ev_v (i := 0) (d := counts_1) rfl) (ev_v (i := 3) (d := c_7) rfl)))) (fun many_19 => (sv_nil many_19 (.same (.same (.same (.same (.drop (.same .nil))))))))))) (fun s_25 => (sv_nil s_25 (.same (.same (.same (.drop (.same (.same .nil))))))))))) (fun s_27 => (tv_ret (ev_v (i := 2) (d := s_27) rfl))))))
/-! _law_shape -/
noncomputable abbrev s_law_shape : Stmt := topS 32
noncomputable abbrev n_law_shape : List Str := ["script", "place", "cap", "row", "variables", "counts", "heard", "turn", "v", "u"]
theorem sc_law_shape : FnScope n_law_shape ["script", "place", "cap"] (defScope s_law_shape) := ⟨rfl, rfl, rfl, by decide +kernel, rfl, by decide +kernel, by decide +kernel⟩
theorem ok_law_shape {fa : Addr} {fd : FuncData} (F : Fun K "_law_shape" "_law_shape" s_law_shape fa fd) (hm : mg "_law_shape" = some (.ref fa)) (hb : Binds K fd ["script", "place", "cap"] []) (bl : Bi mg) (gx : Gx K mg az zv) (ti : Ti K cl mg) (tx : Tx K cl) {f0 : Addr} {fd0 : FuncData} (C_law_row : Con P w K cl mg base 1 "_law_row" (on3 (m_law_row)) f0 fd0 ["script", "place", "many"]) {f1 : Addr} {fd1 : FuncData} (C_law_count_ways : Con P w K cl mg base 2 "_law_count_ways" (on2 (m_law_count_ways)) f1 fd1 ["counts", "heard"]) : Con P w K cl mg base 3 "_law_shape" (on3 (m_law_shape)) fa fd ["script", "place", "cap"] := by
  refine fun_con (k := 2) F sc_law_shape rfl ar3 hm hb (fun cdv A outer s H E hr => ?_)
  have nd := sc_law_shape.nd
  refine ⟨_, (pss_cons (ps_set (i := 3) nd rfl (by first | exact Or.inl rfl | exact Or.inr rfl) (pe_call C_law_row.ok (hr.mono (by omega)) (by rfl) C_law_row.mg C_law_row.kp C_law_row.bd .nil pass0 (pa_cons (pv 0) (pa_cons (pv 1) (pa_cons pe_int pa_nil))))) (pss_cons (ps_set (i := 4) nd rfl (by first | exact Or.inl rfl | exact Or.inr rfl) (pe_ix (ixK K) (pe_lst (pa_cons pe_int (pa_cons pe_int (pa_cons pe_int (pa_cons pe_int (pa_cons pe_int (pa_cons pe_int (pa_cons pe_int pa_nil)))))))) (pe_op op_mod (pe_callTy call_int1 (by rfl) bl.int (by decide +kernel) (pa_cons (pe_ix (ixK K) (pv 3) pe_int (fun _ _ => rfl)) pa_nil)) pe_int) (fun _ _ => rfl))) (pss_cons (ps_setLc (i := 5) (own := [("v", 8)]) (g := (gName 8)) (tt := tYes) rfl nd rfl rfl (sw_true rfl rfl rfl (by decide +kernel)) (pi_range1 (by rfl) bl.range (pa_cons (pv 4) pa_nil)) (blkOk_by (N := n_law_shape) (sc := defScope s_law_shape) (by decide +kernel)) (fun _ _ _ _ _ => pg_name (i := 8) nd rfl (by first | exact Or.inl rfl | exact Or.inr rfl)) (fun _ _ _ _ _ => pts_nil) (fun _ _ _ _ _ => (pe_op op_addD pe_int (pe_callTy call_int1 (by rfl) bl.int (by decide +kernel) (pa_cons (pe_cmpR op_eq (pe_op op_mod (pe_callTy call_int1 (by rfl) bl.int (by decide +kernel) (pa_cons (pe_ix (ixK K) (pv 3) (pe_op op_addD pe_int (pv 8)) (fun _ _ => rfl)) pa_nil)) pe_int) pe_int (nomark _)) pa_nil))))) (pss_cons (ps_setLc (i := 6) (own := [("v", 8)]) (g := (gName 8)) (tt := tYes) rfl nd rfl rfl (sw_true rfl rfl rfl (by decide +kernel)) (pi_range1 (by rfl) bl.range (pa_cons (pv 4) pa_nil)) (blkOk_by (N := n_law_shape) (sc := defScope s_law_shape) (by decide +kernel)) (fun _ _ _ _ _ => pg_name (i := 8) nd rfl (by first | exact Or.inl rfl | exact Or.inr rfl)) (fun _ _ _ _ _ => pts_nil) (fun _ _ _ _ _ => (pe_lc (own := [("u", 9)]) (g := (gName 9)) (tt := _) rfl nd (pi_range1 (by rfl) bl.range (pa_cons (pv 8) pa_nil)) (blkOk_by (N := n_law_shape) (by rfl)) (fun _ _ _ _ _ => pg_name (i := 9) nd rfl (by first | exact Or.inl rfl | exact Or.inr rfl)) (fun _ _ _ _ _ => pts_one (pt_cmpR op_gt (pe_op op_mod (pe_callTy call_int1 (by rfl) bl.int (by decide +kernel) (pa_cons (pe_ix (ixK K) (pv 3) (pe_op op_addD (pe_op op_addD pe_int (pe_op op_mulD pe_int (pv 8))) (pv 9)) (fun _ _ => rfl)) pa_nil)) pe_int) pe_int (nomark _))) (fun _ _ _ _ _ => (pv 9))))) (pss_cons (ps_for PassesOwn.never rfl (pi_range1 (by rfl) bl.range (pa_cons pe_int pa_nil)) (pg_name (i := 7) nd rfl (by first | exact Or.inl rfl | exact Or.inr rfl)) (pss_cons (ps_set (i := 8) nd rfl (by first | exact Or.inl rfl | exact Or.inr rfl) (pe_op op_mod (pe_callTy call_int1 (by rfl) bl.int (by decide +kernel) (pa_cons (pe_op op_addD (pe_ix (ixK K) (pv 3) pe_int (fun _ _ => rfl)) (pv 7)) pa_nil)) (pv 4))) (pss_cons (ps_if (pt_cmpR op_gt (pe_call C_law_count_ways.ok (hr.mono (by omega)) (by rfl) C_law_count_ways.mg C_law_count_ways.kp C_law_count_ways.bd .nil pass0 (pa_cons (pv 5) (pa_cons (pv 6) pa_nil))) (pv 2) (nomark _)) (pss_cons (ps_if (truthK K (pe_ix (ixK K) (pv 6) (pv 8) (fun _ _ => rfl)) (by intro _; rfl)) (pss_cons (ps_expr (bmK K PySem.F.plainAttrs_list PySem.F.slot_list_pop PySem.F.type_list_pop mt_popAt (pe_ix (ixK K) (pv 6) (pv 8) (fun _ _ => rfl)) (pa_cons (pe_op op_mod (pe_callTy call_int1 (by rfl) bl.int (by decide +kernel) (pa_cons (pe_ix (ixK K) (pv 3) (pe_op op_addD pe_int (pv 8)) (fun _ _ => rfl)) pa_nil)) (pe_callB (lenK K) (by rfl) bl.len (by decide +kernel) (pa_cons (pe_ix (ixK K) (pv 6) (pv 8) (fun _ _ => rfl)) pa_nil))) pa_nil))) pss_nil) (pss_cons (ps_asg pe_int (pg_sub (pv 5) (pv 8) set_list)) pss_nil)) pss_nil) pss_nil) pss_nil))) (pss_cons (ps_ret (pe_tup (pa_cons (pv 5) (pa_cons (pv 6) pa_nil)))) pss_never)))))), ?_⟩
  exact all3 fun script_1 place_2 cap_3 => (tv_cons (sv_asg (i := 3) (ev_call (ea_cons (ev_v (i := 0) (d := script_1) rfl) (ea_cons (ev_v (i := 1) (d := place_2) rfl) (ea_cons ev_int ea_nil))))) (fun row_4 => (tv_cons (sv_asg (i := 4) (ev_op o_ix ((evn_lst (ea_cons ev_int (ea_cons ev_int (ea_cons ev_int (ea_cons ev_int (ea_cons ev_int (ea_cons ev_int (ea_cons ev_int ea_nil))))))))).ev (ev_op o_mod (ev_cb o_int (ea_cons (ev_op o_ix (ev_v (i := 3) (d := row_4) rfl) ev_int) ea_nil)) ev_int))) (fun variables_11 => (tv_cons (sv_asgN (i := 5) (evn_lc (f := some) (iv_rng1 (ev_v (i := 4) (d := variables_11) rfl)) gv_name (gw_name (by decide)) (fun c_35 => et_yes) (fun c_35 => (ev_op o_add ev_int (ev_cb o_int (ea_cons (ev_op o_eqF (ev_op o_mod (ev_cb o_int (ea_cons (ev_op o_ix (ev_v (i := 3) (d := row_4) rfl) (ev_op o_add ev_int (ev_v (i := 8) (d := c_35) rfl))) ea_nil)) ev_int) ev_int) ea_nil)))))) (fun counts_34 => (tv_cons (sv_asgO (i := 6) (evo_lc (f := some) (iv_rng1 (ev_v (i := 4) (d := variables_11) rfl)) gv_name (gw_name (by decide)) (fun c_53 => et_yes) (fun c_53 => (evn_lc (f := some) (iv_rng1 (ev_v (i := 8) (d := c_53) rfl)) gv_name (gw_name (by decide)) (fun c_54 => (et_op o_gt (ev_op o_mod (ev_cb o_int (ea_cons (ev_op o_ix (ev_v (i := 3) (d := row_4) rfl) (ev_op o_add (ev_op o_add ev_int (ev_op o_mul ev_int (ev_v (i := 8) (d := c_53) rfl))) (ev_v (i := 9) (d := c_54) rfl))) ea_nil)) ev_int) ev_int)) (fun c_54 => (ev_v (i := 9) (d := c_54) rfl)))))) (fun heard_52 => (tv_cons (sv_for (f := some) (inv := (fun (b : D × D) => [.vl script_1, .vl place_2, .vl cap_3, .vl row_4, .vl variables_11, .ow (.l .v) b.2, .ow (.l (.l .v)) b.1, .jk, .jk, .jk])) (heard_52, counts_34) (iv_rng1 ev_int) (.same (.same (.same (.same (.same (.same (.same (.same (.same (.same .nil)))))))))) gv_name (fun c_74 b_73 => (sv_cons (sv_asg (i := 8) (ev_op o_mod (ev_cb o_int (ea_cons (ev_op o_add (ev_op o_ix (ev_v (i := 3) (d := row_4) rfl) ev_int) (ev_v (i := 7) (d := c_74) rfl)) ea_nil)) (ev_v (i := 4) (d := variables_11) rfl))) (fun v_75 => (sv_cons (sv_if (post := (fun (b : D × D) => [.vl script_1, .vl place_2, .vl cap_3, .vl row_4, .vl variables_11, .ow (.l .v) b.2, .ow (.l (.l .v)) b.1, .vl c_74, .vl v_75, .jk])) (et_lend (i := 5) (d := b_73.2) rfl (et_lend (i := 6) (d := b_73.1) rfl (et_op o_gt (ev_call (ea_cons (ev_v (i := 5) (d := b_73.2) rfl) (ea_cons (ev_v (i := 6) (d := b_73.1) rfl) ea_nil))) (ev_v (i := 2) (d := cap_3) rfl)))) (sv_cons (sv_if (post := (fun (b : D × D) => [.vl script_1, .vl place_2, .vl cap_3, .vl row_4, .vl variables_11, .ow (.l .v) b.2, .ow (.l (.l .v)) b.1, .vl c_74, .vl v_75, .jk])) (et_lend (i := 6) (d := b_73.1) rfl (et_tru (ev_op o_ix (ev_v (i := 6) (d := b_73.1) rfl) (ev_v (i := 8) (d := v_75) rfl)))) (sv_cons (sv_pop2 (i := 6) (d := b_73.1) rfl rfl rfl (ev_v (i := 8) (d := v_75) rfl) (ev_lend (i := 6) (d := b_73.1) rfl (ev_op o_mod (ev_cb o_int (ea_cons (ev_op o_ix (ev_v (i := 3) (d := row_4) rfl) (ev_op o_add ev_int (ev_v (i := 8) (d := v_75) rfl))) ea_nil)) (ev_cb o_len (ea_cons (ev_op o_ix (ev_v (i := 6) (d := b_73.1) rfl) (ev_v (i := 8) (d := v_75) rfl)) ea_nil))))) (fun heard_110 => (sv_nil (heard_110, b_73.2) (.same (.same (.same (.same (.same (.same (.same (.same (.same (.same .nil))))))))))))) (sv_cons (sv_setL (i := 5) (d := b_73.2) rfl ev_int rfl (ev_v (i := 8) (d := v_75) rfl)) (fun counts_113 => (sv_nil (b_73.1, counts_113) (.same (.same (.same (.same (.same (.same (.same (.same (.same (.same .nil)))))))))))))) (fun s_95 => (sv_nil (s_95.1, s_95.2) (.same (.same (.same (.same (.same (.same (.same (.same (.same (.same .nil))))))))))))) (sv_nil (b_73.1, b_73.2) (.same (.same (.same (.same (.same (.same (.same (.same (.same (.same .nil)))))))))))) (fun s_91 => (sv_nil (s_91.1, s_91.2) (.same (.same (.same (.same (.same (.same (.same (.drop (.drop (.same .nil))))))))))))))))) (fun s_115 => (tv_ret (ev_pre (i := 5) (d := s_115.2) rfl (ev_pre (i := 6) (d := s_115.1) rfl (ev_tup (ea_cons (ev_v (i := 5) (d := s_115.2) rfl) (ea_cons (ev_v (i := 6) (d := s_115.1) rfl) ea_nil))))))))))))))))
/-! _law_kept -/
noncomputable abbrev s_law_kept : Stmt := topS 28
noncomputable abbrev n_law_kept : List Str := []
theorem sc_law_kept : FnScope n_law_kept [] (defScope s_law_kept) := ⟨rfl, rfl, rfl, by decide +kernel, rfl, by decide +kernel, by decide +kernel⟩
theorem ok_law_kept {fa : Addr} {fd : FuncData} (F : Fun K "_law_kept" "_law_kept" s_law_kept fa fd) (hm : mg "_law_kept" = some (.ref fa)) (hb : Binds K fd [] []) (bl : Bi mg) (gx : Gx K mg az zv) (ti : Ti K cl mg) (tx : Tx K cl)  : Con P w K cl mg base 1 "_law_kept" (on0 (m_law_kept)) fa fd [] := by
  refine fun_con (k := 0) F sc_law_kept rfl ar0 hm hb (fun cdv A outer s H E hr => ?_)
  have nd := sc_law_kept.nd
  refine ⟨_, (pss_cons (ps_ret (pe_lst (pa_cons pe_str (pa_cons pe_str (pa_cons pe_str (pa_cons pe_str (pa_cons pe_str (pa_cons pe_str (pa_cons pe_str (pa_cons pe_str (pa_cons pe_str (pa_cons pe_str (pa_cons pe_str (pa_cons pe_str (pa_cons pe_str pa_nil))))))))))))))) pss_never), ?_⟩
  exact all0 (tv_ret ((evn_lst (ea_cons ev_str (ea_cons ev_str (ea_cons ev_str (ea_cons ev_str (ea_cons ev_str (ea_cons ev_str (ea_cons ev_str (ea_cons ev_str (ea_cons ev_str (ea_cons ev_str (ea_cons ev_str (ea_cons ev_str (ea_cons ev_str ea_nil))))))))))))))).ev)
/-! _law_name -/
noncomputable abbrev s_law_name : Stmt := topS 29
noncomputable abbrev n_law_name : List Str := ["row", "k", "letters", "text", "size_v", "alike", "i", "at"]
theorem sc_law_name : FnScope n_law_name ["row", "k"] (defScope s_law_name) := ⟨rfl, rfl, rfl, by decide +kernel, rfl, by decide +kernel, by decide +kernel⟩
theorem ok_law_name {fa : Addr} {fd : FuncData} (F : Fun K "_law_name" "_law_name" s_law_name fa fd) (hm : mg "_law_name" = some (.ref fa)) (hb : Binds K fd ["row", "k"] []) (bl : Bi mg) (gx : Gx K mg az zv) (ti : Ti K cl mg) (tx : Tx K cl) {f0 : Addr} {fd0 : FuncData} (C_law_kept : Con P w K cl mg base 1 "_law_kept" (on0 (m_law_kept)) f0 fd0 []) : Con P w K cl mg base 2 "_law_name" (on2 (m_law_name)) fa fd ["row", "k"] := by
  refine fun_con (k := 1) F sc_law_name rfl ar2 hm hb (fun cdv A outer s H E hr => ?_)
  have nd := sc_law_name.nd
  refine ⟨_, (pss_cons (ps_set (i := 2) nd rfl (by first | exact Or.inl rfl | exact Or.inr rfl) pe_str) (pss_cons (ps_set (i := 3) nd rfl (by first | exact Or.inl rfl | exact Or.inr rfl) pe_str) (pss_cons (ps_set (i := 4) nd rfl (by first | exact Or.inl rfl | exact Or.inr rfl) (pe_op op_mod (pe_callTy call_int1 (by rfl) bl.int (by decide +kernel) (pa_cons (pe_ix (ixK K) (pv 0) pe_int (fun _ _ => rfl)) pa_nil)) pe_int)) (pss_cons (ps_set (i := 5) nd rfl (by first | exact Or.inl rfl | exact Or.inr rfl) (pe_cmpR op_eq (pe_op op_mod (pe_callTy call_int1 (by rfl) bl.int (by decide +kernel) (pa_cons (pe_op op_fdivP (pe_ix (ixK K) (pv 0) pe_int (fun _ _ => rfl)) pe_int) pa_nil)) pe_int) pe_int (nomark _))) (pss_cons (ps_if (pt_not (pt_val (pv 5))) (pss_cons (ps_set (i := 4) nd rfl (by first | exact Or.inl rfl | exact Or.inr rfl) (pe_callB (call_max2 rfl) (by rfl) bl.max (by decide +kernel) (pa_cons pe_int (pa_cons (pe_op op_sub (pv 4) (pv 1)) pa_nil)))) pss_nil) pss_nil) (pss_cons (ps_for PassesOwn.never rfl (pi_range1 (by rfl) bl.range (pa_cons (pv 4) pa_nil)) (pg_name (i := 6) nd rfl (by first | exact Or.inl rfl | exact Or.inr rfl)) (pss_cons (ps_if (pt_cmpR op_eq (pv 6) pe_int (nomark _)) (pss_cons (ps_set (i := 3) nd rfl (by first | exact Or.inl rfl | exact Or.inr rfl) (pe_ix (ixK K) (pv 2) (pe_op op_mod (pe_callTy call_int1 (by rfl) bl.int (by decide +kernel) (pa_cons (pe_ix (ixK K) (pv 0) pe_int (fun _ _ => rfl)) pa_nil)) pe_int) (fun _ _ => rfl))) pss_nil) (pss_cons (ps_set (i := 3) nd rfl (by first | exact Or.inl rfl | exact Or.inr rfl) (pe_op op_addD (pv 3) (pe_ix (ixK K) (pe_op op_addD (pv 2) pe_str) (pe_op op_mod (pe_callTy call_int1 (by rfl) bl.int (by decide +kernel) (pa_cons (pe_ix (ixK K) (pv 0) (pe_op op_addD pe_int (pv 6)) (fun _ _ => rfl)) pa_nil)) pe_int) (fun _ _ => rfl)))) pss_nil)) pss_nil)) (pss_cons (ps_set (i := 7) nd rfl (by first | exact Or.inl rfl | exact Or.inr rfl) (pe_op op_mod (pe_callTy call_int1 (by rfl) bl.int (by decide +kernel) (pa_cons (pe_ix (ixK K) (pv 0) pe_int (fun _ _ => rfl)) pa_nil)) (pe_op op_addD (pv 4) pe_int))) (pss_cons (ps_if (pt_not (pt_val (pv 5))) (pss_cons (ps_set (i := 7) nd rfl (by first | exact Or.inl rfl | exact Or.inr rfl) pe_int) pss_nil) pss_nil) (pss_cons (ps_set (i := 3) nd rfl (by first | exact Or.inl rfl | exact Or.inr rfl) (pe_op op_addD (pe_op op_addD (pe_slice sl_str (pv 3) po_none (po_some (pv 7))) (pe_ix (ixK K) (pv 2) (pe_op op_mod (pe_callTy call_int1 (by rfl) bl.int (by decide +kernel) (pa_cons (pe_op op_addD (pe_ix (ixK K) (pv 0) pe_int (fun _ _ => rfl)) (pv 1)) pa_nil)) pe_int) (fun _ _ => rfl))) (pe_slice sl_str (pv 3) (po_some (pv 7)) po_none))) (pss_cons (ps_if (pt_cmpR (inK K) (pv 3) (pe_call0 C_law_kept.ok (hr.mono (by omega)) (by rfl) C_law_kept.mg C_law_kept.kp C_law_kept.bd .nil pass0) (by rfl)) (pss_cons (ps_set (i := 3) nd rfl (by first | exact Or.inl rfl | exact Or.inr rfl) (pe_op op_addD (pv 3) pe_str)) pss_nil) pss_nil) (pss_cons (ps_ret (pv 3)) pss_never))))))))))), ?_⟩
  exact all2 fun row_1 k_2 => (tv_cons (sv_asg (i := 2) ev_str) (fun letters_3 => (tv_cons (sv_asg (i := 3) ev_str) (fun text_4 => (tv_cons (sv_asg (i := 4) (ev_op o_mod (ev_cb o_int (ea_cons (ev_op o_ix (ev_v (i := 0) (d := row_1) rfl) ev_int) ea_nil)) ev_int)) (fun size_v_5 => (tv_cons (sv_asg (i := 5) (ev_op o_eqF (ev_op o_mod (ev_cb o_int (ea_cons (ev_op o_fdiv (ev_op o_ix (ev_v (i := 0) (d := row_1) rfl) ev_int) ev_int) ea_nil)) ev_int) ev_int)) (fun alike_12 => (tv_cons (sv_if (post := (fun (b : D) => [.vl row_1, .vl k_2, .vl letters_3, .vl text_4, .vl b, .vl alike_12, .jk, .jk])) (et_not (et_B (ev_v (i := 5) (d := alike_12) rfl))) (sv_cons (sv_asg (i := 4) (ev_cb o_max2 (ea_cons ev_int (ea_cons (ev_op o_sub (ev_v (i := 4) (d := size_v_5) rfl) (ev_v (i := 1) (d := k_2) rfl)) ea_nil)))) (fun size_v_26 => (sv_nil size_v_26 (.same (.same (.same (.same (.same (.same (.same (.same .nil))))))))))) (sv_nil size_v_5 (.same (.same (.same (.same (.same (.same (.same (.same .nil)))))))))) (fun s_25 => (tv_cons (sv_for (f := some) (inv := (fun (b : D) => [.vl row_1, .vl k_2, .vl letters_3, .vl b, .vl s_25, .vl alike_12, .jk, .jk])) text_4 (iv_rng1 (ev_v (i := 4) (d := s_25) rfl)) (.same (.same (.same (.same (.same (.same (.same (.same .nil)))))))) gv_name (fun c_34 b_33 => (sv_cons (sv_if (post := (fun (b : D) => [.vl row_1, .vl k_2, .vl letters_3, .vl b, .vl s_25, .vl alike_12, .vl c_34, .jk])) (et_op o_eqF (ev_v (i := 6) (d := c_34) rfl) ev_int) (sv_cons (sv_asg (i := 3) (ev_op o_ix (ev_v (i := 2) (d := letters_3) rfl) (ev_op o_mod (ev_cb o_int (ea_cons (ev_op o_ix (ev_v (i := 0) (d := row_1) rfl) ev_int) ea_nil)) ev_int))) (fun text_39 => (sv_nil text_39 (.same (.same (.same (.same (.same (.same (.same (.same .nil))))))))))) (sv_cons (sv_asg (i := 3) (ev_op o_add (ev_v (i := 3) (d := b_33) rfl) (ev_op o_ix (ev_op o_add (ev_v (i := 2) (d := letters_3) rfl) ev_str) (ev_op o_mod (ev_cb o_int (ea_cons (ev_op o_ix (ev_v (i := 0) (d := row_1) rfl) (ev_op o_add ev_int (ev_v (i := 6) (d := c_34) rfl))) ea_nil)) ev_int)))) (fun text_48 => (sv_nil text_48 (.same (.same (.same (.same (.same (.same (.same (.same .nil)))))))))))) (fun s_38 => (sv_nil s_38 (.same (.same (.same (.same (.same (.same (.drop (.same .nil))))))))))))) (fun s_64 => (tv_cons (sv_asg (i := 7) (ev_op o_mod (ev_cb o_int (ea_cons (ev_op o_ix (ev_v (i := 0) (d := row_1) rfl) ev_int) ea_nil)) (ev_op o_add (ev_v (i := 4) (d := s_25) rfl) ev_int))) (fun at_65 => (tv_cons (sv_if (post := (fun (b : D) => [.vl row_1, .vl k_2, .vl letters_3, .vl s_64, .vl s_25, .vl alike_12, .jk, .vl b])) (et_not (et_B (ev_v (i := 5) (d := alike_12) rfl))) (sv_cons (sv_asg (i := 7) ev_int) (fun at_77 => (sv_nil at_77 (.same (.same (.same (.same (.same (.same (.same (.same .nil))))))))))) (sv_nil at_65 (.same (.same (.same (.same (.same (.same (.same (.same .nil)))))))))) (fun s_76 => (tv_cons (sv_asg (i := 3) (ev_op o_add (ev_op o_add (ev_slS (ev_v (i := 3) (d := s_64) rfl) eo_no (eo_so (ev_v (i := 7) (d := s_76) rfl))) (ev_op o_ix (ev_v (i := 2) (d := letters_3) rfl) (ev_op o_mod (ev_cb o_int (ea_cons (ev_op o_add (ev_op o_ix (ev_v (i := 0) (d := row_1) rfl) ev_int) (ev_v (i := 1) (d := k_2) rfl)) ea_nil)) ev_int))) (ev_slS (ev_v (i := 3) (d := s_64) rfl) (eo_so (ev_v (i := 7) (d := s_76) rfl)) eo_no))) (fun text_78 => (tv_cons (sv_if (post := (fun (b : D) => [.vl row_1, .vl k_2, .vl letters_3, .vl b, .vl s_25, .vl alike_12, .jk, .vl s_76])) (et_op o_in (ev_v (i := 3) (d := text_78) rfl) (ev_call ea_nil)) (sv_cons (sv_asg (i := 3) (ev_op o_add (ev_v (i := 3) (d := text_78) rfl) ev_str)) (fun text_103 => (sv_nil text_103 (.same (.same (.same (.same (.same (.same (.same (.same .nil))))))))))) (sv_nil text_78 (.same (.same (.same (.same (.same (.same (.same (.same .nil)))))))))) (fun s_102 => (tv_ret (ev_v (i := 3) (d := s_102) rfl))))))))))))))))))))))
/-! _law_names -/
noncomputable abbrev s_law_names : Stmt := topS 30
noncomputable abbrev n_law_names : List Str := ["script", "place", "many", "row", "k"]
theorem sc_law_names : FnScope n_law_names ["script", "place", "many"] (defScope s_law_names) := ⟨rfl, rfl, rfl, by decide +kernel, rfl, by decide +kernel, by decide +kernel⟩
theorem ok_law_names {fa : Addr} {fd : FuncData} (F : Fun K "_law_names" "_law_names" s_law_names fa fd) (hm : mg "_law_names" = some (.ref fa)) (hb : Binds K fd ["script", "place", "many"] []) (bl : Bi mg) (gx : Gx K mg az zv) (ti : Ti K cl mg) (tx : Tx K cl) {f0 : Addr} {fd0 : FuncData} (C_law_row : Con P w K cl mg base 1 "_law_row" (on3 (m_law_row)) f0 fd0 ["script", "place", "many"]) {f1 : Addr} {fd1 : FuncData} (C_law_name : Con P w K cl mg base 2 "_law_name" (on2 (m_law_name)) f1 fd1 ["row", "k"]) : Con P w K cl mg base 3 "_law_names" (on3 (m_law_names)) fa fd ["script", "place", "many"] := by
  refine fun_con (k := 2) F sc_law_names rfl ar3 hm hb (fun cdv A outer s H E hr => ?_)
  have nd := sc_law_names.nd
  refine ⟨_, (pss_cons (ps_set (i := 3) nd rfl (by first | exact Or.inl rfl | exact Or.inr rfl) (pe_call C_law_row.ok (hr.mono (by omega)) (by rfl) C_law_row.mg C_law_row.kp C_law_row.bd .nil pass0 (pa_cons (pv 0) (pa_cons (pv 1) (pa_cons pe_int pa_nil))))) (pss_cons (ps_ret (pe_lc (own := [("k", 4)]) (g := (gName 4)) (tt := tYes) rfl nd (pi_range1 (by rfl) bl.range (pa_cons (pv 2) pa_nil)) (blkOk_by (N := n_law_names) (sc := defScope s_law_names) (by decide +kernel)) (fun _ _ _ _ _ => pg_name (i := 4) nd rfl (by first | exact Or.inl rfl | exact Or.inr rfl)) (fun _ _ _ _ _ => pts_nil) (fun _ _ _ _ _ => (pe_call C_law_name.ok (hr.mono (by omega)) (by rfl) C_law_name.mg C_law_name.kp C_law_name.bd .nil pass0 (pa_cons (pv 3) (pa_cons (pv 4) pa_nil)))))) pss_never)), ?_⟩
  exact all3 fun script_1 place_2 many_3 => (tv_cons (sv_asg (i := 3) (ev_call (ea_cons (ev_v (i := 0) (d := script_1) rfl) (ea_cons (ev_v (i := 1) (d := place_2) rfl) (ea_cons ev_int ea_nil))))) (fun row_4 => (tv_ret ((evn_lc (f := some) (iv_rng1 (ev_v (i := 2) (d := many_3) rfl)) gv_name (gw_name (by decide)) (fun c_11 => et_yes) (fun c_11 => (ev_call (ea_cons (ev_v (i := 3) (d := row_4) rfl) (ea_cons (ev_v (i := 4) (d := c_11) rfl) ea_nil)))))).ev)))
/-! _law_house -/
noncomputable abbrev s_law_house : Stmt := topS 33
noncomputable abbrev n_law_house : List Str := ["script", "place", "cap", "counts", "heard", "names", "words", "v", "found"]
theorem sc_law_house : FnScope n_law_house ["script", "place", "cap"] (defScope s_law_house) := ⟨rfl, rfl, rfl, by decide +kernel, rfl, by decide +kernel, by decide +kernel⟩
theorem ok_law_house {fa : Addr} {fd : FuncData} (F : Fun K "_law_house" "_law_house" s_law_house fa fd) (hm : mg "_law_house" = some (.ref fa)) (hb : Binds K fd ["script", "place", "cap"] []) (bl : Bi mg) (gx : Gx K mg az zv) (ti : Ti K cl mg) (tx : Tx K cl) {f0 : Addr} {fd0 : FuncData} (C_law_shape : Con P w K cl mg base 3 "_law_shape" (on3 (m_law_shape)) f0 fd0 ["script", "place", "cap"]) {f1 : Addr} {fd1 : FuncData} (C_law_names : Con P w K cl mg base 3 "_law_names" (on3 (m_law_names)) f1 fd1 ["script", "place", "many"]) {f2 : Addr} {fd2 : FuncData} (C_law_row : Con P w K cl mg base 1 "_law_row" (on3 (m_law_row)) f2 fd2 ["script", "place", "many"]) : Con P w K cl mg base 4 "_law_house" (on3 (m_law_house)) fa fd ["script", "place", "cap"] := by
  refine fun_con (k := 3) F sc_law_house rfl ar3 hm hb (fun cdv A outer s H E hr => ?_)
  have nd := sc_law_house.nd
  refine ⟨_, (pss_cons (ps_asg (pe_call C_law_shape.ok (hr.mono (by omega)) (by rfl) C_law_shape.mg C_law_shape.kp C_law_shape.bd .nil pass0 (pa_cons (pv 0) (pa_cons (pv 1) (pa_cons (pv 2) pa_nil)))) (tupGK K rfl (pgs_cons (pg_name (i := 3) nd rfl (by first | exact Or.inl rfl | exact Or.inr rfl)) (pgs_cons (pg_name (i := 4) nd rfl (by first | exact Or.inl rfl | exact Or.inr rfl)) pgs_nil)))) (pss_cons (ps_set (i := 5) nd rfl (by first | exact Or.inl rfl | exact Or.inr rfl) (pe_call C_law_names.ok (hr.mono (by omega)) (by rfl) C_law_names.mg C_law_names.kp C_law_names.bd .nil pass0 (pa_cons (pv 0) (pa_cons (pe_op op_addD (pv 1) pe_int) (pa_cons (pe_callB (lenK K) (by rfl) bl.len (by decide +kernel) (pa_cons (pv 3) pa_nil)) pa_nil))))) (pss_cons (ps_set (i := 6) nd rfl (by first | exact Or.inl rfl | exact Or.inr rfl) (pe_lst pa_nil)) (pss_cons (ps_for PassesOwn.never rfl (pi_range1 (by rfl) bl.range (pa_cons (pe_callB (lenK K) (by rfl) bl.len (by decide +kernel) (pa_cons (pv 3) pa_nil)) pa_nil)) (pg_name (i := 7) nd rfl (by first | exact Or.inl rfl | exact Or.inr rfl)) (pss_cons (ps_set (i := 8) nd rfl (by first | exact Or.inl rfl | exact Or.inr rfl) (pe_call C_law_names.ok (hr.mono (by omega)) (by rfl) C_law_names.mg C_law_names.kp C_law_names.bd .nil pass0 (pa_cons (pv 0) (pa_cons (pe_op op_addD (pe_op op_addD (pv 1) pe_int) (pv 7)) (pa_cons pe_int pa_nil))))) (pss_cons (ps_if (pt_cmpR op_eq (pe_op op_mod (pe_callTy call_int1 (by rfl) bl.int (by decide +kernel) (pa_cons (pe_ix (ixK K) (pe_call C_law_row.ok (hr.mono (by omega)) (by rfl) C_law_row.mg C_law_row.kp C_law_row.bd .nil pass0 (pa_cons (pv 0) (pa_cons (pv 1) (pa_cons pe_int pa_nil)))) pe_int (fun _ _ => rfl)) pa_nil)) pe_int) pe_int (nomark _)) (pss_cons (ps_set (i := 8) nd rfl (by first | exact Or.inl rfl | exact Or.inr rfl) (pe_call C_law_names.ok (hr.mono (by omega)) (by rfl) C_law_names.mg C_law_names.kp C_law_names.bd .nil pass0 (pa_cons (pv 0) (pa_cons (pe_op op_addD (pv 1) pe_int) (pa_cons pe_int pa_nil))))) (pss_cons (ps_set (i := 8) nd rfl (by first | exact Or.inl rfl | exact Or.inr rfl) (pe_op op_cat (pe_slice (slK K) (pv 8) (po_some (pe_op op_mod (pe_callTy call_int1 (by rfl) bl.int (by decide +kernel) (pa_cons (pv 7) pa_nil)) pe_int)) po_none) (pe_slice (slK K) (pv 8) po_none (po_some (pe_op op_mod (pe_callTy call_int1 (by rfl) bl.int (by decide +kernel) (pa_cons (pv 7) pa_nil)) pe_int))))) pss_nil)) pss_nil) (pss_cons (ps_expr (bmK K PySem.F.plainAttrs_list PySem.F.slot_list_append PySem.F.type_list_append mt_append (pv 6) (pa_cons (pe_slice (slK K) (pv 8) po_none (po_some (pe_ix (ixK K) (pv 3) (pv 7) (fun _ _ => rfl)))) pa_nil))) pss_nil)))) (pss_cons (ps_ret (pe_tup (pa_cons (pv 5) (pa_cons (pv 6) (pa_cons (pv 4) pa_nil))))) pss_never))))), ?_⟩
  exact all3 fun script_1 place_2 cap_3 => (tv_cons (sv_asgG (ev_call (ea_cons (ev_v (i := 0) (d := script_1) rfl) (ea_cons (ev_v (i := 1) (d := place_2) rfl) (ea_cons (ev_v (i := 2) (d := cap_3) rfl) ea_nil)))) gv_tup2) (fun c_4 => (tv_cons (sv_asg (i := 5) (ev_call (ea_cons (ev_v (i := 0) (d := script_1) rfl) (ea_cons (ev_op o_add (ev_v (i := 1) (d := place_2) rfl) ev_int) (ea_cons (ev_cb o_len (ea_cons (ev_v (i := 3) (d := c_4.1) rfl) ea_nil)) ea_nil))))) (fun names_11 => (tv_cons (sv_asgN (i := 6) (evn_lst ea_nil)) (fun words_22 => (tv_cons (sv_for (f := some) (inv := (fun (b : D) => [.vl script_1, .vl place_2, .vl cap_3, .vl c_4.1, .vl c_4.2, .vl names_11, .ow (.l .v) b, .jk, .jk])) words_22 (iv_rng1 (ev_cb o_len (ea_cons (ev_v (i := 3) (d := c_4.1) rfl) ea_nil))) (.same (.same (.same (.same (.same (.same (.same (.same (.same .nil))))))))) gv_name (fun c_26 b_25 => (sv_cons (sv_asg (i := 8) (ev_call (ea_cons (ev_v (i := 0) (d := script_1) rfl) (ea_cons (ev_op o_add (ev_op o_add (ev_v (i := 1) (d := place_2) rfl) ev_int) (ev_v (i := 7) (d := c_26) rfl)) (ea_cons ev_int ea_nil))))) (fun found_27 => (sv_cons (sv_if (post := (fun (b : D) => [.vl script_1, .vl place_2, .vl cap_3, .vl c_4.1, .vl c_4.2, .vl names_11, .ow (.l .v) b_25, .vl c_26, .vl b])) (et_op o_eqF (ev_op o_mod (ev_cb o_int (ea_cons (ev_op o_ix (ev_call (ea_cons (ev_v (i := 0) (d := script_1) rfl) (ea_cons (ev_v (i := 1) (d := place_2) rfl) (ea_cons ev_int ea_nil)))) ev_int) ea_nil)) ev_int) ev_int) (sv_cons (sv_asg (i := 8) (ev_call (ea_cons (ev_v (i := 0) (d := script_1) rfl) (ea_cons (ev_op o_add (ev_v (i := 1) (d := place_2) rfl) ev_int) (ea_cons ev_int ea_nil))))) (fun found_54 => (sv_cons (sv_asg (i := 8) ((evn_op o_cat ((evn_sl (ev_v (i := 8) (d := found_54) rfl) (eo_so (ev_op o_mod (ev_cb o_int (ea_cons (ev_v (i := 7) (d := c_26) rfl) ea_nil)) ev_int)) eo_no)).ev ((evn_sl (ev_v (i := 8) (d := found_54) rfl) eo_no (eo_so (ev_op o_mod (ev_cb o_int (ea_cons (ev_v (i := 7) (d := c_26) rfl) ea_nil)) ev_int)))).ev)).ev) (fun found_63 => (sv_nil found_63 (.same (.same (.same (.same (.same (.same (.same (.same (.same .nil)))))))))))))) (sv_nil found_27 (.same (.same (.same (.same (.same (.same (.same (.same (.same .nil))))))))))) (fun s_53 => (sv_cons (sv_app (i := 6) (d := b_25) rfl rfl ((evn_sl (ev_v (i := 8) (d := s_53) rfl) eo_no (eo_so (ev_op o_ix (ev_v (i := 3) (d := c_4.1) rfl) (ev_v (i := 7) (d := c_26) rfl))))).ev) (fun words_86 => (sv_nil words_86 (.same (.same (.same (.same (.same (.same (.same (.drop (.drop .nil)))))))))))))))))) (fun s_88 => (tv_ret (ev_pre (i := 6) (d := s_88) rfl (ev_tup (ea_cons (ev_v (i := 5) (d := names_11) rfl) (ea_cons (ev_v (i := 6) (d := s_88) rfl) (ea_cons (ev_v (i := 4) (d := c_4.2) rfl) ea_nil))))))))))))))
/-! _law_text_words -/
noncomputable abbrev s_law_text_words : Stmt := topS 34
noncomputable abbrev n_law_text_words : List Str := ["house", "names", "words", "heard", "found", "v", "u"]
theorem sc_law_text_words : FnScope n_law_text_words ["house"] (defScope s_law_text_words) := ⟨rfl, rfl, rfl, by decide +kernel, rfl, by decide +kernel, by decide +kernel⟩
theorem ok_law_text_words {fa : Addr} {fd : FuncData} (F : Fun K "_law_text_words" "_law_text_words" s_law_text_words fa fd) (hm : mg "_law_text_words" = some (.ref fa)) (hb : Binds K fd ["house"] []) (bl : Bi mg) (gx : Gx K mg az zv) (ti : Ti K cl mg) (tx : Tx K cl)  : Con P w K cl mg base 1 "_law_text_words" (on1 (m_law_text_words)) fa fd ["house"] := by
  refine fun_con (k := 0) F sc_law_text_words rfl ar1 hm hb (fun cdv A outer s H E hr => ?_)
  have nd := sc_law_text_words.nd
  refine ⟨_, (pss_cons (ps_asg (pv 0) (tupGK K rfl (pgs_cons (pg_name (i := 1) nd rfl (by first | exact Or.inl rfl | exact Or.inr rfl)) (pgs_cons (pg_name (i := 2) nd rfl (by first | exact Or.inl rfl | exact Or.inr rfl)) (pgs_cons (pg_name (i := 3) nd rfl (by first | exact Or.inl rfl | exact Or.inr rfl)) pgs_nil))))) (pss_cons (ps_set (i := 4) nd rfl (by first | exact Or.inl rfl | exact Or.inr rfl) (pe_lst (pa_cons pe_str pa_nil))) (pss_cons (ps_for PassesOwn.never rfl (pi_range1 (by rfl) bl.range (pa_cons (pe_callB (lenK K) (by rfl) bl.len (by decide +kernel) (pa_cons (pv 1) pa_nil)) pa_nil)) (pg_name (i := 5) nd rfl (by first | exact Or.inl rfl | exact Or.inr rfl)) (pss_cons (ps_set (i := 4) nd rfl (by first | exact Or.inl rfl | exact Or.inr rfl) (pe_op op_cat (pe_op op_cat (pv 4) (pe_lst (pa_cons pe_str (pa_cons (pe_ix (ixK K) (pv 1) (pv 5) (fun _ _ => rfl)) (pa_cons pe_str pa_nil))))) (pe_ix (ixK K) (pv 2) (pv 5) (fun _ _ => rfl)))) (pss_cons (ps_if (truthK K (pe_ix (ixK K) (pv 3) (pv 5) (fun _ _ => rfl)) (by intro _; rfl)) (pss_cons (ps_set (i := 4) nd rfl (by first | exact Or.inl rfl | exact Or.inr rfl) (pe_op op_cat (pe_op op_cat (pv 4) (pe_lst (pa_cons pe_str pa_nil))) (pe_lc (own := [("u", 6)]) (g := (gName 6)) (tt := tYes) rfl nd (listIK K (pe_ix (ixK K) (pv 3) (pv 5) (fun _ _ => rfl))) (blkOk_by (N := n_law_text_words) (sc := defScope s_law_text_words) (by decide +kernel)) (fun _ _ _ _ _ => pg_name (i := 6) nd rfl (by first | exact Or.inl rfl | exact Or.inr rfl)) (fun _ _ _ _ _ => pts_nil) (fun _ _ _ _ _ => (pe_ix (ixK K) (pv 1) (pv 6) (fun _ _ => rfl)))))) pss_nil) pss_nil) (pss_cons (ps_set (i := 4) nd rfl (by first | exact Or.inl rfl | exact Or.inr rfl) (pe_op op_cat (pv 4) (pe_lst (pa_cons pe_str pa_nil)))) pss_nil)))) (pss_cons (ps_ret (pe_op op_cat (pv 4) (pe_lst (pa_cons pe_str pa_nil)))) pss_never)))), ?_⟩
  exact all1 fun house_1 => (tv_cons (sv_asgG (ev_v (i := 0) (d := house_1) rfl) gv_tup3) (fun c_2 => (tv_cons (sv_asg (i := 4) ((evn_lst (ea_cons ev_str ea_nil))).ev) (fun found_3 => (tv_cons (sv_for (f := some) (inv := (fun (b : D) => [.vl house_1, .vl c_2.1, .vl c_2.2.1, .vl c_2.2.2, .vl b, .jk, .jk])) found_3 (iv_rng1 (ev_cb o_len (ea_cons (ev_v (i := 1) (d := c_2.1) rfl) ea_nil))) (.same (.same (.same (.same (.same (.same (.same .nil))))))) gv_name (fun c_9 b_8 => (sv_cons (sv_asg (i := 4) ((evn_op o_cat ((evn_op o_cat (ev_v (i := 4) (d := b_8) rfl) ((evn_lst (ea_cons ev_str (ea_cons (ev_op o_ix (ev_v (i := 1) (d := c_2.1) rfl) (ev_v (i := 5) (d := c_9) rfl)) (ea_cons ev_str ea_nil))))).ev)).ev (ev_op o_ix (ev_v (i := 2) (d := c_2.2.1) rfl) (ev_v (i := 5) (d := c_9) rfl)))).ev) (fun found_10 => (sv_cons (sv_if (post := (fun (b : D) => [.vl house_1, .vl c_2.1, .vl c_2.2.1, .vl c_2.2.2, .vl b, .vl c_9, .jk])) (et_tru (ev_op o_ix (ev_v (i := 3) (d := c_2.2.2) rfl) (ev_v (i := 5) (d := c_9) rfl))) (sv_cons (sv_asg (i := 4) ((evn_op o_cat ((evn_op o_cat (ev_v (i := 4) (d := found_10) rfl) ((evn_lst (ea_cons ev_str ea_nil))).ev)).ev ((evn_lc (f := some) (iv_list (ev_op o_ix (ev_v (i := 3) (d := c_2.2.2) rfl) (ev_v (i := 5) (d := c_9) rfl))) gv_name (gw_name (by decide)) (fun c_36 => et_yes) (fun c_36 => (ev_op o_ix (ev_v (i := 1) (d := c_2.1) rfl) (ev_v (i := 6) (d := c_36) rfl))))).ev)).ev) (fun found_29 => (sv_nil found_29 (.same (.same (.same (.same (.same (.same (.same .nil)))))))))) (sv_nil found_10 (.same (.same (.same (.same (.same (.same (.same .nil))))))))) (fun s_28 => (sv_cons (sv_asg (i := 4) ((evn_op o_cat (ev_v (i := 4) (d := s_28) rfl) ((evn_lst (ea_cons ev_str ea_nil))).ev)).ev) (fun found_43 => (sv_nil found_43 (.same (.same (.same (.same (.same (.drop (.same .nil)))))))))))))))) (fun s_49 => (tv_ret ((evn_op o_cat (ev_v (i := 4) (d := s_49) rfl) ((evn_lst (ea_cons ev_str ea_nil))).ev)).ev)))))))
/-! _law_is_name -/
noncomputable abbrev s_law_is_name : Stmt := topS 38
noncomputable abbrev n_law_is_name : List Str := ["word", "char"]
theorem sc_law_is_name : FnScope n_law_is_name ["word"] (defScope s_law_is_name) := ⟨rfl, rfl, rfl, by decide +kernel, rfl, by decide +kernel, by decide +kernel⟩
theorem ok_law_is_name {fa : Addr} {fd : FuncData} (F : Fun K "_law_is_name" "_law_is_name" s_law_is_name fa fd) (hm : mg "_law_is_name" = some (.ref fa)) (hb : Binds K fd ["word"] []) (bl : Bi mg) (gx : Gx K mg az zv) (ti : Ti K cl mg) (tx : Tx K cl) {f0 : Addr} {fd0 : FuncData} (C_law_kept : Con P w K cl mg base 1 "_law_kept" (on0 (m_law_kept)) f0 fd0 []) : Con P w K cl mg base 2 "_law_is_name" (on1 (m_law_is_name)) fa fd ["word"] := by
  refine fun_con (k := 1) F sc_law_is_name rfl ar1 hm hb (fun cdv A outer s H E hr => ?_)
  have nd := sc_law_is_name.nd
  refine ⟨_, (pss_cons (ps_if (PW.pt (pw_or (pt_not (pt_chain op_le op_le pe_int (pe_callB (lenK K) (by rfl) bl.len (by decide +kernel) (pa_cons (pv 0) pa_nil)) pe_int)) (pw_or1 (pt_cmpR (inK K) (pv 0) (pe_call0 C_law_kept.ok (hr.mono (by omega)) (by rfl) C_law_kept.mg C_law_kept.kp C_law_kept.bd .nil pass0) (by rfl))))) (pss_cons (ps_ret pe_bl) pss_never) pss_nil) (pss_cons (ps_for PassesOwn.never rfl (pi_str (pv 0)) (pg_name (i := 1) nd rfl (by first | exact Or.inl rfl | exact Or.inr rfl)) (pss_cons (ps_if (pt_cmpR op_ninT (pv 1) pe_str (by rfl)) (pss_cons (ps_ret pe_bl) pss_never) pss_nil) pss_nil)) (pss_cons (ps_ret (pe_cmpR op_ninT (pe_ix (ixK K) (pv 0) pe_int (fun _ _ => rfl)) pe_str (by rfl))) pss_never))), ?_⟩
  exact all1 fun word_1 => (tv_ifl (et_or (et_not (et_T (ev_chain o_le o_le ev_int (ev_cb o_len (ea_cons (ev_v (i := 0) (d := word_1) rfl) ea_nil)) ev_int))) (et_op o_in (ev_v (i := 0) (d := word_1) rfl) (ev_call ea_nil))) (tv_ret ev_bl) (tv_flow (out := fun c => nomatch c) (fv_for (γ := Empty) (f := some) (inv := (fun (b : Unit) => [.vl word_1, .jk])) () (iv_str (ev_v (i := 0) (d := word_1) rfl)) (.same (.same .nil)) gv_name (fun c_15 b_14 => (fv_ifl (post0 := fun _ => []) (et_op o_ninT (ev_v (i := 1) (d := c_15) rfl) ev_str) (fv_ret ev_bl) (fv_nil () (.same (.drop .nil)))))) (fun s_20 => (tv_ret (ev_op o_ninT (ev_op o_ix (ev_v (i := 0) (d := word_1) rfl) ev_int) ev_str)))))
/-! _law_read_names -/
noncomputable abbrev s_law_read_names : Stmt := topS 39
noncomputable abbrev n_law_read_names : List Str := ["words", "at", "most", "names", "k"]
theorem sc_law_read_names : FnScope n_law_read_names ["words", "at", "most"] (defScope s_law_read_names) := ⟨rfl, rfl, rfl, by decide +kernel, rfl, by decide +kernel, by decide +kernel⟩
theorem ok_law_read_names {fa : Addr} {fd : FuncData} (F : Fun K "_law_read_names" "_law_read_names" s_law_read_names fa fd) (hm : mg "_law_read_names" = some (.ref fa)) (hb : Binds K fd ["words", "at", "most"] []) (bl : Bi mg) (gx : Gx K mg az zv) (ti : Ti K cl mg) (tx : Tx K cl) {f0 : Addr} {fd0 : FuncData} (C_law_is_name : Con P w K cl mg base 2 "_law_is_name" (on1 (m_law_is_name)) f0 fd0 ["word"]) : ConS P w K cl mg base 3 "_law_read_names" (fun _ => .l .v) (on3 (m_law_read_names)) fa fd ["words", "at", "most"] := by
  refine fun_conS (k := 2) F sc_law_read_names rfl ar3 hm hb (fun cdv A outer s H E hr => ?_)
  have nd := sc_law_read_names.nd
  refine ⟨_, (pss_cons (ps_set (i := 3) nd rfl (by first | exact Or.inl rfl | exact Or.inr rfl) (pe_lst pa_nil)) (pss_cons (ps_for PassesOwn.never rfl (pi_range1 (by rfl) bl.range (pa_cons (pv 2) pa_nil)) (pg_name (i := 4) nd rfl (by first | exact Or.inl rfl | exact Or.inr rfl)) (pss_cons (ps_if (PW.pt (pw_and (pt_cmpR op_lt (pe_op op_addD (pv 1) (pv 4)) (pe_callB (lenK K) (by rfl) bl.len (by decide +kernel) (pa_cons (pv 0) pa_nil)) (nomark _)) (pw_and (pt_cmpR op_eq (pe_callB (lenK K) (by rfl) bl.len (by decide +kernel) (pa_cons (pv 3) pa_nil)) (pv 4) (nomark _)) (pw_and (pt_val (pe_call C_law_is_name.ok (hr.mono (by omega)) (by rfl) C_law_is_name.mg C_law_is_name.kp C_law_is_name.bd .nil pass0 (pa_cons (pe_ix (ixK K) (pv 0) (pe_op op_addD (pv 1) (pv 4)) (fun _ _ => rfl)) pa_nil))) (pw_and1 (pt_cmpR (ninK K) (pe_ix (ixK K) (pv 0) (pe_op op_addD (pv 1) (pv 4)) (fun _ _ => rfl)) (pv 3) (by rfl))))))) (pss_cons (ps_expr (bmK K PySem.F.plainAttrs_list PySem.F.slot_list_append PySem.F.type_list_append mt_append (pv 3) (pa_cons (pe_ix (ixK K) (pv 0) (pe_op op_addD (pv 1) (pv 4)) (fun _ _ => rfl)) pa_nil))) pss_nil) pss_nil) pss_nil)) (pss_cons (ps_ret (pv 3)) pss_never))), ?_⟩
  exact alld3 fun words_1 at_2 most_3 => (avd_cons (sv_asgN (i := 3) (evn_lst ea_nil)) (fun names_4 => (avd_cons (sv_for (f := some) (inv := (fun (b : D) => [.vl words_1, .vl at_2, .vl most_3, .ow (.l .v) b, .jk])) names_4 (iv_rng1 (ev_v (i := 2) (d := most_3) rfl)) (.same (.same (.same (.same (.same .nil))))) gv_name (fun c_6 b_5 => (sv_cons (sv_if (post := (fun (b : D) => [.vl words_1, .vl at_2, .vl most_3, .ow (.l .v) b, .vl c_6])) (et_lend (i := 3) (d := b_5) rfl (et_and (et_op o_lt (ev_op o_add (ev_v (i := 1) (d := at_2) rfl) (ev_v (i := 4) (d := c_6) rfl)) (ev_cb o_len (ea_cons (ev_v (i := 0) (d := words_1) rfl) ea_nil))) (et_and (et_op o_eqF (ev_cb o_len (ea_cons (ev_v (i := 3) (d := b_5) rfl) ea_nil)) (ev_v (i := 4) (d := c_6) rfl)) (et_and (et_B (ev_call (ea_cons (ev_op o_ix (ev_v (i := 0) (d := words_1) rfl) (ev_op o_add (ev_v (i := 1) (d := at_2) rfl) (ev_v (i := 4) (d := c_6) rfl))) ea_nil))) (et_op o_nin (ev_op o_ix (ev_v (i := 0) (d := words_1) rfl) (ev_op o_add (ev_v (i := 1) (d := at_2) rfl) (ev_v (i := 4) (d := c_6) rfl))) (ev_v (i := 3) (d := b_5) rfl)))))) (sv_cons (sv_app (i := 3) (d := b_5) rfl rfl (ev_op o_ix (ev_v (i := 0) (d := words_1) rfl) (ev_op o_add (ev_v (i := 1) (d := at_2) rfl) (ev_v (i := 4) (d := c_6) rfl)))) (fun names_39 => (sv_nil names_39 (.same (.same (.same (.same (.same .nil)))))))) (sv_nil b_5 (.same (.same (.same (.same (.same .nil))))))) (fun s_33 => (sv_nil s_33 (.same (.same (.same (.same (.drop .nil)))))))))) (fun s_41 => (avd_ret (evd_var (i := 3) (d := s_41) rfl))))))
/-! _law_read_heard -/
noncomputable abbrev s_law_read_heard : Stmt := topS 40
noncomputable abbrev n_law_read_heard : List Str := ["words", "at", "names", "found", "k", "word"]
theorem sc_law_read_heard : FnScope n_law_read_heard ["words", "at", "names"] (defScope s_law_read_heard) := ⟨rfl, rfl, rfl, by decide +kernel, rfl, by decide +kernel, by decide +kernel⟩
theorem ok_law_read_heard {fa : Addr} {fd : FuncData} (F : Fun K "_law_read_heard" "_law_read_heard" s_law_read_heard fa fd) (hm : mg "_law_read_heard" = some (.ref fa)) (hb : Binds K fd ["words", "at", "names"] []) (bl : Bi mg) (gx : Gx K mg az zv) (ti : Ti K cl mg) (tx : Tx K cl)  : ConS P w K cl mg base 1 "_law_read_heard" (fun _ => .l .v) (on3 (m_law_read_heard)) fa fd ["words", "at", "names"] := by
  refine fun_conS (k := 0) F sc_law_read_heard rfl ar3 hm hb (fun cdv A outer s H E hr => ?_)
  have nd := sc_law_read_heard.nd
  refine ⟨_, (pss_cons (ps_set (i := 3) nd rfl (by first | exact Or.inl rfl | exact Or.inr rfl) (pe_lst pa_nil)) (pss_cons (ps_for PassesOwn.never rfl (pi_range1 (by rfl) bl.range (pa_cons (pe_callB (lenK K) (by rfl) bl.len (by decide +kernel) (pa_cons (pv 2) pa_nil)) pa_nil)) (pg_name (i := 4) nd rfl (by first | exact Or.inl rfl | exact Or.inr rfl)) (pss_cons (ps_set (i := 5) nd rfl (by first | exact Or.inl rfl | exact Or.inr rfl) pe_str) (pss_cons (ps_if (PW.pt (pw_and (pt_cmpR op_lt (pe_op op_addD (pv 1) (pv 4)) (pe_callB (lenK K) (by rfl) bl.len (by decide +kernel) (pa_cons (pv 0) pa_nil)) (nomark _)) (pw_and1 (pt_cmpR op_eq (pe_callB (lenK K) (by rfl) bl.len (by decide +kernel) (pa_cons (pv 3) pa_nil)) (pv 4) (nomark _))))) (pss_cons (ps_set (i := 5) nd rfl (by first | exact Or.inl rfl | exact Or.inr rfl) (pe_ix (ixK K) (pv 0) (pe_op op_addD (pv 1) (pv 4)) (fun _ _ => rfl))) pss_nil) pss_nil) (pss_cons (ps_if (PW.pt (pw_and (pt_cmpR (inK K) (pv 5) (pv 2) (by rfl)) (pw_and1 (PW.pt (pw_or (pt_cmpR (eqK K hr) (pv 3) (pe_lst pa_nil) (nomark _)) (pw_or1 (pt_cmpR op_gt (bmK K PySem.F.plainAttrs_list PySem.F.slot_list_index PySem.F.type_list_index mt_index (pv 2) (pa_cons (pv 5) pa_nil)) (pe_ix (ixK K) (pv 3) (pe_un un_neg pe_int) (fun _ _ => rfl)) (nomark _)))))))) (pss_cons (ps_expr (bmK K PySem.F.plainAttrs_list PySem.F.slot_list_append PySem.F.type_list_append mt_append (pv 3) (pa_cons (bmK K PySem.F.plainAttrs_list PySem.F.slot_list_index PySem.F.type_list_index mt_index (pv 2) (pa_cons (pv 5) pa_nil)) pa_nil))) pss_nil) pss_nil) pss_nil)))) (pss_cons (ps_ret (pv 3)) pss_never))), ?_⟩
  exact alld3 fun words_1 at_2 names_3 => (avd_cons (sv_asgN (i := 3) (evn_lst ea_nil)) (fun found_4 => (avd_cons (sv_for (f := some) (inv := (fun (b : D) => [.vl words_1, .vl at_2, .vl names_3, .ow (.l .v) b, .jk, .jk])) found_4 (iv_rng1 (ev_cb o_len (ea_cons (ev_v (i := 2) (d := names_3) rfl) ea_nil))) (.same (.same (.same (.same (.same (.same .nil)))))) gv_name (fun c_8 b_7 => (sv_cons (sv_asg (i := 5) ev_str) (fun word_9 => (sv_cons (sv_if (post := (fun (b : D) => [.vl words_1, .vl at_2, .vl names_3, .ow (.l .v) b_7, .vl c_8, .vl b])) (et_lend (i := 3) (d := b_7) rfl (et_and (et_op o_lt (ev_op o_add (ev_v (i := 1) (d := at_2) rfl) (ev_v (i := 4) (d := c_8) rfl)) (ev_cb o_len (ea_cons (ev_v (i := 0) (d := words_1) rfl) ea_nil))) (et_op o_eqF (ev_cb o_len (ea_cons (ev_v (i := 3) (d := b_7) rfl) ea_nil)) (ev_v (i := 4) (d := c_8) rfl)))) (sv_cons (sv_asg (i := 5) (ev_op o_ix (ev_v (i := 0) (d := words_1) rfl) (ev_op o_add (ev_v (i := 1) (d := at_2) rfl) (ev_v (i := 4) (d := c_8) rfl)))) (fun word_23 => (sv_nil word_23 (.same (.same (.same (.same (.same (.same .nil))))))))) (sv_nil word_9 (.same (.same (.same (.same (.same (.same .nil)))))))) (fun s_22 => (sv_cons (sv_if (post := (fun (b : D) => [.vl words_1, .vl at_2, .vl names_3, .ow (.l .v) b, .vl c_8, .vl s_22])) (et_lend (i := 3) (d := b_7) rfl (et_and (et_op o_in (ev_v (i := 5) (d := s_22) rfl) (ev_v (i := 2) (d := names_3) rfl)) (et_or (et_op o_eq (ev_v (i := 3) (d := b_7) rfl) ((evn_lst ea_nil)).ev) (et_op o_gt (ev_index (ev_v (i := 2) (d := names_3) rfl) (ev_v (i := 5) (d := s_22) rfl)) (ev_op o_ix (ev_v (i := 3) (d := b_7) rfl) (ev_un (fun G H x d z gh r h Q q => o_neg gh r h Q q) ev_int)))))) (sv_cons (sv_app (i := 3) (d := b_7) rfl rfl (ev_index (ev_v (i := 2) (d := names_3) rfl) (ev_v (i := 5) (d := s_22) rfl))) (fun found_45 => (sv_nil found_45 (.same (.same (.same (.same (.same (.same .nil))))))))) (sv_nil b_7 (.same (.same (.same (.same (.same (.same .nil)))))))) (fun s_41 => (sv_nil s_41 (.same (.same (.same (.same (.drop (.drop .nil))))))))))))))) (fun s_47 => (avd_ret (evd_var (i := 3) (d := s_47) rfl))))))
/-! _law_read_variable -/
noncomputable abbrev s_law_read_variable : Stmt := topS 41
noncomputable abbrev n_law_read_variable : List Str := ["words", "at", "names", "own", "place", "heard"]
theorem sc_law_read_variable : FnScope n_law_read_variable ["words", "at", "names"] (defScope s_law_read_variable) := ⟨rfl, rfl, rfl, by decide +kernel, rfl, by decide +kernel, by decide +kernel⟩
theorem ok_law_read_variable {mil : D → Option D} {mrn mrh : D → D → D → Option D} {fa : Addr} {fd : FuncData} (F : Fun K "_law_read_variable" "_law_read_variable" s_law_read_variable fa fd) (hm : mg "_law_read_variable" = some (.ref fa)) (hb : Binds K fd ["words", "at", "names"] []) (ble : mg "len" = none) {f0 : Addr} {fd0 : FuncData} (C_law_read_names : ConS P w K cl mg base 3 "_law_read_names" (fun _ => .l .v) (on3 mrn) f0 fd0 ["words", "at", "most"]) {f1 : Addr} {fd1 : FuncData} (C_law_read_heard : ConS P w K cl mg base 1 "_law_read_heard" (fun _ => .l .v) (on3 mrh) f1 fd1 ["words", "at", "names"]) {f2 : Addr} {fd2 : FuncData} (C_law_is_name : Con P w K cl mg base 2 "_law_is_name" (on1 mil) f2 fd2 ["word"]) : ConS P w K cl mg base 4 "_law_read_variable" shLv (on3 (r_law_read_variable mil mrn mrh)) fa fd ["words", "at", "names"] := by
  refine fun_conS (k := 3) F sc_law_read_variable rfl ar3 hm hb (fun cdv A outer s H E hr => ?_)
  have nd := sc_law_read_variable.nd
  refine ⟨_, (pss_cons (ps_if (pt_cmpR (neK K hr) (pe_slice (slK K) (pv 0) (po_some (pv 1)) (po_some (pe_op op_addD (pv 1) pe_int))) (pe_lst (pa_cons pe_str pa_nil)) (nomark _)) (pss_cons (ps_ret (pe_tup (pa_cons (pv 1) (pa_cons pe_non (pa_cons pe_int pa_nil))))) pss_never) pss_nil) (pss_cons (ps_if (PW.pt (pw_or (pt_cmpR op_ge (pe_op op_addD (pv 1) pe_int) (pe_callB (lenK K) (by rfl) ble (by decide +kernel) (pa_cons (pv 0) pa_nil)) (nomark _)) (pw_or (pt_not (pt_val (pe_call C_law_is_name.ok (hr.mono (by omega)) (by rfl) C_law_is_name.mg C_law_is_name.kp C_law_is_name.bd .nil pass0 (pa_cons (pe_ix (ixK K) (pv 0) (pe_op op_addD (pv 1) pe_int) (fun _ _ => rfl)) pa_nil)))) (pw_or1 (pt_cmpR (inK K) (pe_ix (ixK K) (pv 0) (pe_op op_addD (pv 1) pe_int) (fun _ _ => rfl)) (pv 2) (by rfl)))))) (pss_cons (ps_ret (pe_tup (pa_cons (pe_op op_addD (pv 1) pe_int) (pa_cons pe_non (pa_cons pe_int pa_nil))))) pss_never) pss_nil) (pss_cons (ps_if (pt_cmpR (neK K hr) (pe_slice (slK K) (pv 0) (po_some (pe_op op_addD (pv 1) pe_int)) (po_some (pe_op op_addD (pv 1) pe_int))) (pe_lst (pa_cons pe_str pa_nil)) (nomark _)) (pss_cons (ps_ret (pe_tup (pa_cons (pe_op op_addD (pv 1) pe_int) (pa_cons pe_non (pa_cons pe_int pa_nil))))) pss_never) pss_nil) (pss_cons (ps_set (i := 3) nd rfl (by first | exact Or.inl rfl | exact Or.inr rfl) (pe_call C_law_read_names.ok (hr.mono (by omega)) (by rfl) C_law_read_names.mg C_law_read_names.kp C_law_read_names.bd .nil pass0 (pa_cons (pv 0) (pa_cons (pe_op op_addD (pv 1) pe_int) (pa_cons pe_int pa_nil))))) (pss_cons (ps_set (i := 4) nd rfl (by first | exact Or.inl rfl | exact Or.inr rfl) (pe_op op_addD (pe_op op_addD (pv 1) pe_int) (pe_callB (lenK K) (by rfl) ble (by decide +kernel) (pa_cons (pv 3) pa_nil)))) (pss_cons (ps_if (pt_cmpR op_lt (pe_callB (lenK K) (by rfl) ble (by decide +kernel) (pa_cons (pv 3) pa_nil)) pe_int (nomark _)) (pss_cons (ps_ret (pe_tup (pa_cons (pv 4) (pa_cons pe_non (pa_cons pe_int pa_nil))))) pss_never) pss_nil) (pss_cons (ps_set (i := 5) nd rfl (by first | exact Or.inl rfl | exact Or.inr rfl) (pe_lst pa_nil)) (pss_cons (ps_if (PW.pt (pw_and (truthK K (pv 2) (by intro _; rfl)) (pw_and1 (pt_cmpR (eqK K hr) (pe_slice (slK K) (pv 0) (po_some (pv 4)) (po_some (pe_op op_addD (pv 4) pe_int))) (pe_lst (pa_cons pe_str pa_nil)) (nomark _))))) (pss_cons (ps_set (i := 5) nd rfl (by first | exact Or.inl rfl | exact Or.inr rfl) (pe_call C_law_read_heard.ok (hr.mono (by omega)) (by rfl) C_law_read_heard.mg C_law_read_heard.kp C_law_read_heard.bd .nil pass0 (pa_cons (pv 0) (pa_cons (pe_op op_addD (pv 4) pe_int) (pa_cons (pv 2) pa_nil))))) (pss_cons (ps_set (i := 4) nd rfl (by first | exact Or.inl rfl | exact Or.inr rfl) (pe_op op_addD (pe_op op_addD (pv 4) pe_int) (pe_callB (lenK K) (by rfl) ble (by decide +kernel) (pa_cons (pv 5) pa_nil)))) (pss_cons (ps_if (pt_cmpR (eqK K hr) (pv 5) (pe_lst pa_nil) (nomark _)) (pss_cons (ps_ret (pe_tup (pa_cons (pv 4) (pa_cons pe_non (pa_cons pe_int pa_nil))))) pss_never) pss_nil) pss_nil))) pss_nil) (pss_cons (ps_if (pt_cmpR (neK K hr) (pe_slice (slK K) (pv 0) (po_some (pv 4)) (po_some (pe_op op_addD (pv 4) pe_int))) (pe_lst (pa_cons pe_str pa_nil)) (nomark _)) (pss_cons (ps_ret (pe_tup (pa_cons (pv 4) (pa_cons pe_non (pa_cons pe_int pa_nil))))) pss_never) pss_nil) (pss_cons (ps_ret (pe_tup (pa_cons (pe_un un_neg pe_int) (pa_cons (pe_tup (pa_cons (pe_ix (ixK K) (pv 0) (pe_op op_addD (pv 1) pe_int) (fun _ _ => rfl)) (pa_cons (pv 3) (pa_cons (pv 5) pa_nil)))) (pa_cons (pe_op op_addD (pv 4) pe_int) pa_nil))))) pss_never)))))))))), ?_⟩
  exact alld3 fun words_1 at_2 names_3 => (avd_ifl (et_op o_ne ((evn_sl (ev_v (i := 0) (d := words_1) rfl) (eo_so (ev_v (i := 1) (d := at_2) rfl)) (eo_so (ev_op o_add (ev_v (i := 1) (d := at_2) rfl) ev_int)))).ev ((evn_lst (ea_cons ev_str ea_nil))).ev) (avd_retV (ev_tup (ea_cons (ev_v (i := 1) (d := at_2) rfl) (ea_cons ev_non (ea_cons ev_int ea_nil))))) (avd_ifl (et_or (et_op o_ge (ev_op o_add (ev_v (i := 1) (d := at_2) rfl) ev_int) (ev_cb o_len (ea_cons (ev_v (i := 0) (d := words_1) rfl) ea_nil))) (et_or (et_not (et_B (ev_call (ea_cons (ev_op o_ix (ev_v (i := 0) (d := words_1) rfl) (ev_op o_add (ev_v (i := 1) (d := at_2) rfl) ev_int)) ea_nil)))) (et_op o_in (ev_op o_ix (ev_v (i := 0) (d := words_1) rfl) (ev_op o_add (ev_v (i := 1) (d := at_2) rfl) ev_int)) (ev_v (i := 2) (d := names_3) rfl)))) (avd_retV (ev_tup (ea_cons (ev_op o_add (ev_v (i := 1) (d := at_2) rfl) ev_int) (ea_cons ev_non (ea_cons ev_int ea_nil))))) (avd_ifl (et_op o_ne ((evn_sl (ev_v (i := 0) (d := words_1) rfl) (eo_so (ev_op o_add (ev_v (i := 1) (d := at_2) rfl) ev_int)) (eo_so (ev_op o_add (ev_v (i := 1) (d := at_2) rfl) ev_int)))).ev ((evn_lst (ea_cons ev_str ea_nil))).ev) (avd_retV (ev_tup (ea_cons (ev_op o_add (ev_v (i := 1) (d := at_2) rfl) ev_int) (ea_cons ev_non (ea_cons ev_int ea_nil))))) (avd_cons (sv_asgD (i := 3) (evd_call (sh := fun _ => .l .v) (ea_cons (ev_v (i := 0) (d := words_1) rfl) (ea_cons (ev_op o_add (ev_v (i := 1) (d := at_2) rfl) ev_int) (ea_cons ev_int ea_nil))))) (fun own_70 => (avd_cons (sv_asg (i := 4) (ev_lend (i := 3) (d := own_70) rfl (ev_op o_add (ev_op o_add (ev_v (i := 1) (d := at_2) rfl) ev_int) (ev_cb o_len (ea_cons (ev_v (i := 3) (d := own_70) rfl) ea_nil))))) (fun place_79 => (avd_ifl (et_lend (i := 3) (d := own_70) rfl (et_op o_lt (ev_cb o_len (ea_cons (ev_v (i := 3) (d := own_70) rfl) ea_nil)) ev_int)) (avd_retV (ev_tup (ea_cons (ev_v (i := 4) (d := place_79) rfl) (ea_cons ev_non (ea_cons ev_int ea_nil))))) (avd_cons (sv_asgN (i := 5) (evn_lst ea_nil)) (fun heard_97 => (avd_flow (out := fun c => nomatch c) (fv_if (post := (fun (b : D × D) => [.vl words_1, .vl at_2, .vl names_3, .ow (.l .v) own_70, .vl b.2, .ow (.l .v) b.1])) (et_and (et_tru (ev_v (i := 2) (d := names_3) rfl)) (et_op o_eq ((evn_sl (ev_v (i := 0) (d := words_1) rfl) (eo_so (ev_v (i := 4) (d := place_79) rfl)) (eo_so (ev_op o_add (ev_v (i := 4) (d := place_79) rfl) ev_int)))).ev ((evn_lst (ea_cons ev_str ea_nil))).ev)) (fv_cons (sv_asgD (i := 5) (evd_call (sh := fun _ => .l .v) (ea_cons (ev_v (i := 0) (d := words_1) rfl) (ea_cons (ev_op o_add (ev_v (i := 4) (d := place_79) rfl) ev_int) (ea_cons (ev_v (i := 2) (d := names_3) rfl) ea_nil))))) (fun heard_110 => (fv_cons (sv_asg (i := 4) (ev_lend (i := 5) (d := heard_110) rfl (ev_op o_add (ev_op o_add (ev_v (i := 4) (d := place_79) rfl) ev_int) (ev_cb o_len (ea_cons (ev_v (i := 5) (d := heard_110) rfl) ea_nil))))) (fun place_119 => (fv_ifl (post0 := fun _ => []) (et_lend (i := 5) (d := heard_110) rfl (et_op o_eq (ev_v (i := 5) (d := heard_110) rfl) ((evn_lst ea_nil)).ev)) (fv_ret (ev_tup (ea_cons (ev_v (i := 4) (d := place_119) rfl) (ea_cons ev_non (ea_cons ev_int ea_nil))))) (fv_nil (heard_110, place_119) (.same (.same (.same (.same (.same (.same .nil)))))))))))) (fv_nil (heard_97, place_79) (.same (.same (.same (.same (.same (.same .nil)))))))) (fun s_109 => (avd_ifl (et_op o_ne ((evn_sl (ev_v (i := 0) (d := words_1) rfl) (eo_so (ev_v (i := 4) (d := s_109.2) rfl)) (eo_so (ev_op o_add (ev_v (i := 4) (d := s_109.2) rfl) ev_int)))).ev ((evn_lst (ea_cons ev_str ea_nil))).ev) (avd_retV (ev_tup (ea_cons (ev_v (i := 4) (d := s_109.2) rfl) (ea_cons ev_non (ea_cons ev_int ea_nil))))) (avd_ret (evd_if (evd_tup (f := shv1) (sh := fun _ => .t shv1) (k := 3) (eat_v rfl (ev_un (fun G H x d z gh r h Q q => o_neg gh r h Q q) ev_int) (eat_o (evd_tup (f := shv2) (sh := fun _ => .t shv2) (k := 3) (eat_v rfl (ev_op o_ix (ev_v (i := 0) (d := words_1) rfl) (ev_op o_add (ev_v (i := 1) (d := at_2) rfl) ev_int)) (eat_o (evd_var (i := 3) rfl) (eat_o (evd_var (i := 5) rfl) eat_nil))) (fun _ _ => rfl)) (eat_v rfl (ev_op o_add (ev_v (i := 4) (d := s_109.2) rfl) ev_int) eat_nil))) (fun _ _ => rfl)))))))))))))))))
/-! _law_read -/
noncomputable abbrev s_law_read : Stmt := topS 42
noncomputable abbrev n_law_read : List Str := ["words", "house", "at", "k", "wrong", "variable", "after", "p"]
theorem sc_law_read : FnScope n_law_read ["words"] (defScope s_law_read) := ⟨rfl, rfl, rfl, by decide +kernel, rfl, by decide +kernel, by decide +kernel⟩
theorem ok_law_read {mrv : D → D → D → Option D} {fa : Addr} {fd : FuncData} (F : Fun K "_law_read" "_law_read" s_law_read fa fd) (hm : mg "_law_read" = some (.ref fa)) (hb : Binds K fd ["words"] []) (ble : mg "len" = none) (bra : mg "range" = none) {f0 : Addr} {fd0 : FuncData} (C_law_read_variable : ConS P w K cl mg base 4 "_law_read_variable" shLv (on3 mrv) f0 fd0 ["words", "at", "names"]) : Con P w K cl mg base 5 "_law_read" (on1 (r_law_read mrv)) fa fd ["words"] := by
  refine fun_con (k := 4) F sc_law_read rfl ar1 hm hb (fun cdv A outer s H E hr => ?_)
  have nd := sc_law_read.nd
  refine ⟨_, (pss_cons (ps_set (i := 1) nd rfl (by first | exact Or.inl rfl | exact Or.inr rfl) (pe_tup (pa_cons (pe_lst pa_nil) (pa_cons (pe_lst pa_nil) (pa_cons (pe_lst pa_nil) pa_nil)))))
    (pss_cons (ps_if (pt_cmpR (neK K hr) (pe_slice (slK K) (pv 0) po_none (po_some pe_int)) (pe_lst (pa_cons pe_str pa_nil)) (nomark _)) (pss_cons (ps_ret (pe_tup (pa_cons pe_int (pa_cons (pv 1) pa_nil)))) pss_never) pss_nil)
    (pss_cons (ps_set (i := 2) nd rfl (by first | exact Or.inl rfl | exact Or.inr rfl) pe_int)
    (pss_cons (ps_for PassesOwn.never rfl (pi_range1 (by rfl) bra (pa_cons pe_int pa_nil)) (pg_name (i := 3) nd rfl (by first | exact Or.inl rfl | exact Or.inr rfl))
      (pss_cons (ps_if (PW.pt (pw_or (pt_cmpR op_eq (pv 3) pe_int (nomark _)) (pw_or1 (pt_cmpR (neK K hr) (pe_slice (slK K) (pv 0) (po_some (pv 2)) (po_some (pe_op op_addD (pv 2) pe_int))) (pe_lst (pa_cons pe_str pa_nil)) (nomark _)))))
        (pss_cons (ps_asg (pe_call C_law_read_variable.ok (hr.mono (by omega)) (by rfl) C_law_read_variable.mg C_law_read_variable.kp C_law_read_variable.bd .nil pass0 (pa_cons (pv 0) (pa_cons (pv 2) (pa_cons (pe_ix (ixK K) (pv 1) pe_int (fun _ _ => rfl)) pa_nil)))) (tupGK K rfl (pgs_cons (pg_name (i := 4) nd rfl (by first | exact Or.inl rfl | exact Or.inr rfl)) (pgs_cons (pg_name (i := 5) nd rfl (by first | exact Or.inl rfl | exact Or.inr rfl)) (pgs_cons (pg_name (i := 6) nd rfl (by first | exact Or.inl rfl | exact Or.inr rfl)) pgs_nil)))))
        (pss_cons (ps_if (pt_cmpR op_ge (pv 4) pe_int (nomark _)) (pss_cons (ps_ret (pe_tup (pa_cons (pv 4) (pa_cons (pv 1) pa_nil)))) pss_never) pss_nil)
        (pss_cons (ps_for PassesOwn.never rfl (pi_range1 (by rfl) bra (pa_cons pe_int pa_nil)) (pg_name (i := 7) nd rfl (by first | exact Or.inl rfl | exact Or.inr rfl)) (pss_cons (ps_expr (bmK K PySem.F.plainAttrs_list PySem.F.slot_list_append PySem.F.type_list_append mt_append (pe_ix (ixK K) (pv 1) (pv 7) (fun _ _ => rfl)) (pa_cons (pe_ix (ixK K) (pv 5) (pv 7) (fun _ _ => rfl)) pa_nil))) pss_nil))
        (pss_cons (ps_set (i := 2) nd rfl (by first | exact Or.inl rfl | exact Or.inr rfl) (pv 6)) pss_nil)))) pss_nil) pss_nil))
    (pss_cons (ps_if (pt_cmpR (neK K hr) (pe_slice (slK K) (pv 0) (po_some (pv 2)) (po_some (pe_op op_addD (pv 2) pe_int))) (pe_lst (pa_cons pe_str pa_nil)) (nomark _)) (pss_cons (ps_ret (pe_tup (pa_cons (pv 2) (pa_cons (pv 1) pa_nil)))) pss_never) pss_nil)
    (pss_cons (ps_if (pt_cmpR op_gt (pe_callB (lenK K) (by rfl) ble (by decide +kernel) (pa_cons (pv 0) pa_nil)) (pe_op op_addD (pv 2) pe_int) (nomark _)) (pss_cons (ps_ret (pe_tup (pa_cons (pe_op op_addD (pv 2) pe_int) (pa_cons (pv 1) pa_nil)))) pss_never) pss_nil)
    (pss_cons (ps_ret (pe_tup (pa_cons (pe_un un_neg pe_int) (pa_cons (pv 1) pa_nil)))) pss_never))))))), ?_⟩
  refine all1 fun words_1 => ?_
  refine tv_cons (sv_asgD (i := 1) (evd_tup (f := fun _ => .l .v) (sh := fun _ => .t fun _ => .l .v) (k := 3) (eat_o (evn_lst ea_nil).evo.evd (eat_o (evn_lst ea_nil).evo.evd (eat_o (evn_lst ea_nil).evo.evd eat_nil))) (fun _ _ => rfl))) fun house_2 => ?_
  refine tv_ifl (et_op o_ne ((evn_sl (ev_v (i := 0) (d := words_1) rfl) eo_no (eo_so ev_int))).ev ((evn_lst (ea_cons ev_str ea_nil))).ev) (tv_shr (i := 1) (d := house_2) rfl (tv_ret (ev_tup (ea_cons ev_int (ea_cons (ev_v (i := 1) (d := house_2) rfl) ea_nil))))) ?_
  refine tv_cons (sv_asg (i := 2) ev_int) fun at_3 => ?_
  refine tv_flow (out := fun c => nomatch c) (fv_for (γ := Empty) (f := some) (inv := (fun (b : D × D) => [.vl words_1, .ow (.t fun _ => .l .v) b.1, .vl b.2, .jk, .jk, .jk, .jk, .jk])) (house_2, at_3) (iv_rng1 ev_int) (.same (.same (.same (.same (.same (.same (.same (.same .nil)))))))) gv_name (fun c b => (fv_flow (fv_if (post := (fun (b : D × D) => [.vl words_1, .ow (.t fun _ => .l .v) b.1, .vl b.2, .vl c, .jk, .jk, .jk, .jk])) (et_or (et_op o_eqF (ev_v (i := 3) (d := c) rfl) ev_int) (et_op o_ne ((evn_sl (ev_v (i := 0) (d := words_1) rfl) (eo_so (ev_v (i := 2) (d := b.2) rfl)) (eo_so (ev_op o_add (ev_v (i := 2) (d := b.2) rfl) ev_int)))).ev ((evn_lst (ea_cons ev_str ea_nil))).ev))
      (fv_cons (sv_asgG (ev_lendS (i := 1) (d0 := b.1) (sh := shLv) rfl (evd_call (ea_cons (ev_v (i := 0) (d := words_1) rfl) (ea_cons (ev_v (i := 2) (d := b.2) rfl) (ea_cons (ev_op o_ix (ev_v (i := 1) (d := b.1) rfl) ev_int) ea_nil))))) gv_tup3) (fun r =>
        fv_ifl (post0 := fun _ => []) (et_op o_ge (ev_v (i := 4) (d := r.1) rfl) ev_int) (fv_shr (i := 1) (d := b.1) rfl (fv_ret (ev_tup (ea_cons (ev_v (i := 4) (d := r.1) rfl) (ea_cons (ev_v (i := 1) (d := b.1) rfl) ea_nil)))))
        (fv_cons (sv_for (f := some) (inv := fun (h : D) => [.vl words_1, .ow (.t fun _ => .l .v) h, .vl b.2, .vl c, .vl r.1, .vl r.2.1, .vl r.2.2, .jk]) b.1 (iv_rng1 ev_int) (.same (.same (.same (.same (.same (.same (.same (.same .nil)))))))) gv_name (fun p h => sv_cons (sv_tappN (i := 1) (j := 7) (sh := .t fun _ => .l .v) (d := h) (dk := p) rfl rfl (ev_op o_ix (ev_v (i := 5) (d := r.2.1) rfl) (ev_v (i := 7) (d := p) rfl)) rfl) (fun h1 => sv_nil h1 (.same (.same (.same (.same (.same (.same (.same (.drop .nil))))))))))) (fun h1 =>
          fv_cons (sv_asg (i := 2) (ev_v (i := 6) (d := r.2.2) rfl)) (fun at1 => fv_nil (h1, at1) (.same (.same (.same (.same (.drop (.drop (.drop (.same .nil)))))))))))))
      (fv_nil (b.1, b.2) (.same (.same (.same (.same (.same (.same (.same (.same .nil)))))))))) (fun s => fv_nil (s.1, s.2) (.same (.same (.same (.drop (.same (.same (.same (.same .nil)))))))))))) fun s => ?_
  exact tv_ifl (et_op o_ne ((evn_sl (ev_v (i := 0) (d := words_1) rfl) (eo_so (ev_v (i := 2) (d := s.2) rfl)) (eo_so (ev_op o_add (ev_v (i := 2) (d := s.2) rfl) ev_int)))).ev ((evn_lst (ea_cons ev_str ea_nil))).ev) (tv_shr (i := 1) (d := s.1) rfl (tv_ret (ev_tup (ea_cons (ev_v (i := 2) (d := s.2) rfl) (ea_cons (ev_v (i := 1) (d := s.1) rfl) ea_nil))))) (tv_ifl (et_op o_gt (ev_cb o_len (ea_cons (ev_v (i := 0) (d := words_1) rfl) ea_nil)) (ev_op o_add (ev_v (i := 2) (d := s.2) rfl) ev_int)) (tv_shr (i := 1) (d := s.1) rfl (tv_ret (ev_tup (ea_cons (ev_op o_add (ev_v (i := 2) (d := s.2) rfl) ev_int) (ea_cons (ev_v (i := 1) (d := s.1) rfl) ea_nil))))) (tv_shr (i := 1) (d := s.1) rfl (tv_ret (ev_tup (ea_cons (ev_un (fun G H x d z gh r h Q q => o_neg gh r h Q q) ev_int) (ea_cons (ev_v (i := 1) (d := s.1) rfl) ea_nil))))))
/-! Reader.__init__ -/
noncomputable abbrev s_Reader : Stmt := inClass (topS 10) 0
noncomputable abbrev n_Reader : List Str := ["self", "text", "word"]
theorem sc_Reader : FnScope n_Reader ["self", "text"] (defScope s_Reader) := ⟨rfl, rfl, rfl, by decide +kernel, rfl, by decide +kernel, by decide +kernel⟩
theorem ok_Reader {fa : Addr} {fd : FuncData} (F : Fun K "__init__" "Reader.__init__" s_Reader fa fd) (M : Mk K (cl.c 0) fa) (hm : mg "Reader" = some (.ref (cl.c 0))) (hb : Binds K fd ["self", "text"] []) (bl : Bi mg) (gx : Gx K mg az zv) (tx : Tx K cl)  : ConJ P w K cl mg base 1 0 "Reader" (shF [("words", .l .v)]) mk_Reader fa fd ["self", "text"] := by
  refine initJ_con (fs0 := (shF [("words", .l .v)])) (k := 0) F sc_Reader rfl ar1 M hm hb (fun cdv A outer s H E hr => ?_)
  have nd := sc_Reader.nd
  refine ⟨_, (pss_cons (ps_fld (pv 0) (pe_lc (own := [("word", 2)]) (g := (gName 2)) (tt := _) rfl nd (listIK K (splitK (pv 1) pe_str)) (blkOk_by (N := n_Reader) (sc := defScope s_Reader) (by decide +kernel)) (fun _ _ _ _ _ => pg_name (i := 2) nd rfl (by first | exact Or.inl rfl | exact Or.inr rfl)) (fun _ _ _ _ _ => pts_one (pt_cmpR op_ne (pv 2) pe_str (nomark _))) (fun _ _ _ _ _ => (pv 2))) rfl) (pss_cons (ps_fld (pv 0) pe_int rfl) pss_nil)), ?_⟩
  exact fun xa ds hl => match ds, hl with | [text_1], _ => (by show SV K cl _ _ (((((((some text_1).bind fun t2 => (some (.str " ")).bind fun t3 => dSplit t2 t3).bind asL).bind fun xs => (capD xs).bind fun xs => (compD (fun x_7 => (some x_7).bind fun c_4 => ((some c_4).bind fun t5 => (some (.str "")).bind fun t6 => (dNeF t5 t6).bind asB).bind fun b_8 => if b_8 = true then (some c_4).map some else some none) xs).map .lst).bind fun t9 => dStF 0 "words" (.ob 0 []) t9).bind fun self_10 => (((some (.int 0)).bind fun t11 => dStF 0 "at" self_10 t11).bind fun self_12 => (some self_12)))) _; exact (sv_cons (sv_fldJO (i := 0) (x := (.ob 0 [])) (po := ((some xa))) (fs := (shF [("words", .l .v)])) (sh := .l .v) tx.Reader (.head _) rfl rfl ((evn_lc (f := some) (iv_list ((evn_split (ev_v (i := 1) (d := text_1) rfl) ev_str)).ev) gv_name (gw_name (by decide)) (fun c_4 => (et_op o_neF (ev_v (i := 2) (d := c_4) rfl) ev_str)) (fun c_4 => (ev_v (i := 2) (d := c_4) rfl)))).evo) (fun self_10 => (sv_cons (sv_fldJ (i := 0) (x := self_10) (po := ((some xa))) (fs := (shF [("words", .l .v)])) tx.Reader (.tail _ (.head _)) rfl rfl ev_int) (fun self_12 => (sv_nil self_12 (.same (.drop (.same .nil)))))))))
/-! Reader.ended -/
noncomputable abbrev s_Reader_ended : Stmt := inClass (topS 10) 1
noncomputable abbrev n_Reader_ended : List Str := ["self"]
theorem sc_Reader_ended : FnScope n_Reader_ended ["self"] (defScope s_Reader_ended) := ⟨rfl, rfl, rfl, by decide +kernel, rfl, by decide +kernel, by decide +kernel⟩
theorem ok_Reader_ended {fa : Addr} {fd : FuncData} (F : Fun K "ended" "Reader.ended" s_Reader_ended fa fd) (hm : Meth K (cl.c 0) "ended" fa) (hb : Binds K fd ["self"] []) (bl : Bi mg) (gx : Gx K mg az zv) (tx : Tx K cl)  : ConM P w K cl mg base 1 0 "ended" (on1 (m_Reader_ended)) fa fd ["self"] := by
  refine pure_con (k := 0) F sc_Reader_ended rfl ar1 hm hb (fun cdv A outer s H E hr => ?_)
  have nd := sc_Reader_ended.nd
  refine ⟨_, (pss_cons (ps_ret (pe_cmpR op_eq (fldK K (pv 0) rfl) (pe_callB (lenK K) (by rfl) bl.len (by decide +kernel) (pa_cons (fldK K (pv 0) rfl) pa_nil)) (nomark _))) pss_never), ?_⟩
  exact all1 fun self_1 => (tv_ret (ev_op o_eqF (ev_fld tx.Reader (.tail _ (.head _)) (ev_v (i := 0) (d := self_1) rfl)) (ev_cb o_len (ea_cons (ev_fld tx.Reader (.head _) (ev_v (i := 0) (d := self_1) rfl)) ea_nil))))
/-! Reader.coming -/
noncomputable abbrev s_Reader_coming : Stmt := inClass (topS 10) 2
noncomputable abbrev n_Reader_coming : List Str := ["self"]
theorem sc_Reader_coming : FnScope n_Reader_coming ["self"] (defScope s_Reader_coming) := ⟨rfl, rfl, rfl, by decide +kernel, rfl, by decide +kernel, by decide +kernel⟩
theorem ok_Reader_coming {fa : Addr} {fd : FuncData} (F : Fun K "coming" "Reader.coming" s_Reader_coming fa fd) (hm : Meth K (cl.c 0) "coming" fa) (hb : Binds K fd ["self"] []) (bl : Bi mg) (gx : Gx K mg az zv) (tx : Tx K cl) {f0 : Addr} {fd0 : FuncData} (C_Reader_ended : ConM P w K cl mg base 1 0 "ended" (on1 (m_Reader_ended)) f0 fd0 ["self"]) : ConM P w K cl mg base 2 0 "coming" (on1 (m_Reader_coming)) fa fd ["self"] := by
  refine pure_con (k := 1) F sc_Reader_coming rfl ar1 hm hb (fun cdv A outer s H E hr => ?_)
  have nd := sc_Reader_coming.nd
  refine ⟨_, (pss_cons (ps_if (pt_val (pe_meth0 (pv 0) tx.Reader.c C_Reader_ended.mt C_Reader_ended.ok (hr.mono (by omega)) C_Reader_ended.bd .nil pass0)) (pss_cons (ps_ret pe_str) pss_never) pss_nil) (pss_cons (ps_ret (pe_ix (ixK K) (fldK K (pv 0) rfl) (fldK K (pv 0) rfl) (fun _ _ => rfl))) pss_never)), ?_⟩
  exact all1 fun self_1 => (tv_ifl (et_B (ev_meth (ev_v (i := 0) (d := self_1) rfl) ea_nil)) (tv_ret ev_str) (tv_ret (ev_op o_ix (ev_fld tx.Reader (.head _) (ev_v (i := 0) (d := self_1) rfl)) (ev_fld tx.Reader (.tail _ (.head _)) (ev_v (i := 0) (d := self_1) rfl)))))
/-! Reader.take -/
noncomputable abbrev s_Reader_take : Stmt := inClass (topS 10) 3
noncomputable abbrev n_Reader_take : List Str := ["self", "allowed", "word"]
theorem sc_Reader_take : FnScope n_Reader_take ["self", "allowed"] (defScope s_Reader_take) := ⟨rfl, rfl, rfl, by decide +kernel, rfl, by decide +kernel, by decide +kernel⟩
theorem ok_Reader_take {gc fa : Addr} {fd : FuncData} (F : FunC K "take" "Reader.take" s_Reader_take fa fd gc) (hm : Meth K (cl.c 0) "take" fa) (hb : Binds K fd ["self", "allowed"] []) (tx : ClsF K (cl.c 0) ["words", "at"]) (bad : BadC P w K mg base (cl.c kb) fI fdI) {f0 : Addr} {fd0 : FuncData} (C_Reader_coming : ConM P w K cl mg base 2 0 "coming" (on1 mc) f0 fd0 ["self"]) :
    ConOE P w K cl mg base 3 0 "take" (shF [("words", .l .v)]) (own1E (r_Reader_take kb mc)) fa fd ["self", "allowed"] := by
  refine ⟨ownE_ok (k := 2) F sc_Reader_take rfl (fun d ds r h => ?_) (fun A outer s H E hr => ?_), hm, hb⟩
  · match ds, h with
    | [a], _ => rfl
  have nd := sc_Reader_take.nd
  have tk := L2N.takes_of (X := cxOf (L2N.CX P w) P w K mg base n_Reader_take "Reader.take" (defScope s_Reader_take) fa (.ref gc) A outer s H E) (E := E) rfl rfl rfl rfl
  refine ⟨_, (pss_cons (ps_set (i := 2) nd rfl (by first | exact Or.inl rfl | exact Or.inr rfl) (pe_meth0 (pv 0) tx.c C_Reader_coming.mt C_Reader_coming.ok (hr.mono (by omega)) C_Reader_coming.bd .nil pass0)) (pss_cons (ps_if (pt_cmpR (ninK K) (pv 2) (pv 1) (by rfl)) (pss_cons (ps_raiseO (E := E) rfl tk bad.T bad.iC bad.tI bad.ok (hr.mono (by omega)) bad.bd rfl bad.mg (pa_cons (fldK K (pv 0) rfl) pa_nil)) pss_never) pss_nil) (pss_cons (ps_fldaug (pv 0) pe_int in_add) (pss_cons (ps_ret (pv 2)) pss_never)))), ?_⟩
  refine fun xa H0 self_2 ds hl gr => match ds, hl with | [allowed_1], _ => ?_
  show QVE K cl xa _ _ _ _ _ (r_Reader_take kb mc self_2 allowed_1)
  unfold r_Reader_take raiseIf
  exact (qve_cons (sv_asg (i := 2) (ev_lend (i := 0) (d := self_2) rfl (ev_meth (ev_v (i := 0) (d := self_2) rfl) ea_nil))).e (fun word_3 => (qve_cons (sve_ifraise (et_op o_nin (ev_v (i := 2) (d := word_3) rfl) (ev_v (i := 1) (d := allowed_1) rfl)) (sve_raiseO (ev_lend (i := 0) (d := self_2) rfl (ev_fld tx (.tail _ (.head _)) (ev_v (i := 0) (d := self_2) rfl))))) (fun u_8 => (qve_cons (SV.e (sv_fldAugJ (i := 0) (x := self_2) tx (.tail _ (.head _)) rfl rfl ev_int)) (fun self_12 => (qve_ret (EV.e (ev_v (i := 2) (d := word_3) rfl)) (fun _ => rfl))))))))
/-! Reader.finish -/
noncomputable abbrev s_Reader_finish : Stmt := inClass (topS 10) 6
noncomputable abbrev n_Reader_finish : List Str := ["self"]
theorem sc_Reader_finish : FnScope n_Reader_finish ["self"] (defScope s_Reader_finish) := ⟨rfl, rfl, rfl, by decide +kernel, rfl, by decide +kernel, by decide +kernel⟩
theorem ok_Reader_finish {kb : Nat} {me : D → Option D} {gc fa : Addr} {fd : FuncData} (F : FunC K "finish" "Reader.finish" s_Reader_finish fa fd gc) (hm : Meth K (cl.c 0) "finish" fa) (hb : Binds K fd ["self"] []) (tx : ClsF K (cl.c 0) ["words", "at"]) {fI : Addr} {fdI : FuncData} (bad : BadC P w K mg base (cl.c kb) fI fdI) {f0 : Addr} {fd0 : FuncData} (C_ended : ConM P w K cl mg base 1 0 "ended" (on1 me) f0 fd0 ["self"]) :
    ConOE P w K cl mg base 3 0 "finish" (shF [("words", .l .v)]) (fun d ds => thenR (own0N (r_Reader_finish kb me) d ds) fun d' => some (.ok (.non, d'))) fa fd ["self"] := by
  refine ⟨ownN_ok (k := 2) F sc_Reader_finish rfl (fun d ds r h => ?_) (fun A outer s H E hr => ?_), hm, hb⟩
  · match ds, h with
    | [], _ => rfl
  have nd := sc_Reader_finish.nd
  have tk := L2N.takes_of (X := cxOf (L2N.CX P w) P w K mg base n_Reader_finish "Reader.finish" (defScope s_Reader_finish) fa (.ref gc) A outer s H E) (E := E) rfl rfl rfl rfl
  refine ⟨_, (pss_cons (ps_if (pt_not (pt_val (pe_meth0 (pv 0) tx.c C_ended.mt C_ended.ok (hr.mono (by omega)) C_ended.bd .nil pass0))) (pss_cons (ps_raiseO (E := E) rfl tk bad.T bad.iC bad.tI bad.ok (hr.mono (by omega)) bad.bd rfl bad.mg (pa_cons (fldK K (pv 0) rfl) pa_nil)) pss_never) pss_nil) pss_nil), ?_⟩
  refine fun xa H0 self_1 ds hl => match ds, hl with | [], _ => ?_
  show QVN K cl xa _ _ _ _ _ (r_Reader_finish kb me self_1)
  unfold r_Reader_finish raiseIf
  exact qvn_end (post := fun _ => [.ow (.j (some xa) (shF [("words", .l .v)])) self_1]) (ob := fun _ => self_1) (sve_flat (sve_ifraise (et_lend (i := 0) (d := self_1) rfl (et_not (et_B (ev_meth (ev_v (i := 0) (d := self_1) rfl) ea_nil)))) (sve_raiseO (ev_lend (i := 0) (d := self_1) rfl (ev_fld tx (.tail _ (.head _)) (ev_v (i := 0) (d := self_1) rfl)))))) (fun _ => rfl)
/-! House.__init__ -/
noncomputable abbrev s_House : Stmt := inClass (topS 16) 0
noncomputable abbrev n_House : List Str := ["self", "names", "words", "heard", "said", "earlier"]
theorem sc_House : FnScope n_House ["self", "names", "words", "heard"] (defScope s_House) := ⟨rfl, rfl, rfl, by decide +kernel, rfl, by decide +kernel, by decide +kernel⟩
theorem ok_House {fa : Addr} {fd : FuncData} (F : Fun K "__init__" "House.__init__" s_House fa fd) (M : Mk K (cl.c 1) fa) (hm : mg "House" = some (.ref (cl.c 1))) (hb : Binds K fd ["self", "names", "words", "heard"] []) (bl : Bi mg) (gx : Gx K mg az zv) (tx : Tx K cl)  : ConI P w K cl mg base 1 1 "House" mk_House fa fd ["self", "names", "words", "heard"] := by
  refine init_con (k := 0) F sc_House rfl ar3 M hm hb (fun cdv A outer s H E hr => ?_)
  have nd := sc_House.nd
  refine ⟨_, (pss_cons (ps_fld (pv 0) (pe_callTy (listK K) (by rfl) bl.list (by decide +kernel) (pa_cons (pv 1) pa_nil)) rfl) (pss_cons (ps_fld (pv 0) (pe_lc (own := [("said", 4)]) (g := (gName 4)) (tt := tYes) rfl nd (listIK K (pv 2)) (blkOk_by (N := n_House) (sc := defScope s_House) (by decide +kernel)) (fun _ _ _ _ _ => pg_name (i := 4) nd rfl (by first | exact Or.inl rfl | exact Or.inr rfl)) (fun _ _ _ _ _ => pts_nil) (fun _ _ _ _ _ => (pe_callTy (listK K) (by rfl) bl.list (by decide +kernel) (pa_cons (pv 4) pa_nil)))) rfl) (pss_cons (ps_fld (pv 0) (pe_lc (own := [("earlier", 5)]) (g := (gName 5)) (tt := tYes) rfl nd (listIK K (pv 3)) (blkOk_by (N := n_House) (sc := defScope s_House) (by decide +kernel)) (fun _ _ _ _ _ => pg_name (i := 5) nd rfl (by first | exact Or.inl rfl | exact Or.inr rfl)) (fun _ _ _ _ _ => pts_nil) (fun _ _ _ _ _ => (pe_callTy (listK K) (by rfl) bl.list (by decide +kernel) (pa_cons (pv 5) pa_nil)))) rfl) pss_nil))), ?_⟩
  exact fun xa ds hl => match ds, hl with | [names_1, words_2, heard_3], _ => (by show SV K cl _ _ ((((((some names_1).bind fun x_4 => (some []).bind fun xs_5 => some (x_4 :: xs_5)).bind (on1 dList)).bind fun t6 => dStF 1 "names" (.ob 1 []) t6).bind fun self_7 => (((((some words_2).bind asL).bind fun xs => (capD xs).bind fun xs => (compD (fun x_11 => (some x_11).bind fun c_8 => (some true).bind fun b_12 => if b_12 = true then (((some c_8).bind fun x_9 => (some []).bind fun xs_10 => some (x_9 :: xs_10)).bind (on1 dList)).map some else some none) xs).map .lst).bind fun t13 => dStF 1 "words" self_7 t13).bind fun self_14 => (((((some heard_3).bind asL).bind fun xs => (capD xs).bind fun xs => (compD (fun x_18 => (some x_18).bind fun c_15 => (some true).bind fun b_19 => if b_19 = true then (((some c_15).bind fun x_16 => (some []).bind fun xs_17 => some (x_16 :: xs_17)).bind (on1 dList)).map some else some none) xs).map .lst).bind fun t20 => dStF 1 "heard" self_14 t20).bind fun self_21 => (some self_21))))) _; exact (sv_cons (sv_fld (i := 0) (xa := xa) (x := (.ob 1 [])) tx.House (.head _) rfl ((evn_cb o_list (ea_cons (ev_v (i := 1) (d := names_1) rfl) ea_nil))).ev) (fun self_7 => (sv_cons (sv_fld (i := 0) (xa := xa) (x := self_7) tx.House (.tail _ (.head _)) rfl ((evn_lc (f := some) (iv_list (ev_v (i := 2) (d := words_2) rfl)) gv_name (gw_name (by decide)) (fun c_8 => et_yes) (fun c_8 => ((evn_cb o_list (ea_cons (ev_v (i := 4) (d := c_8) rfl) ea_nil))).ev))).ev) (fun self_14 => (sv_cons (sv_fld (i := 0) (xa := xa) (x := self_14) tx.House (.tail _ (.tail _ (.head _))) rfl ((evn_lc (f := some) (iv_list (ev_v (i := 3) (d := heard_3) rfl)) gv_name (gw_name (by decide)) (fun c_15 => et_yes) (fun c_15 => ((evn_cb o_list (ea_cons (ev_v (i := 5) (d := c_15) rfl) ea_nil))).ev))).ev) (fun self_21 => (sv_nil self_21 (.same (.drop (.drop (.drop (.same (.same .nil))))))))))))))
/-! size -/
noncomputable abbrev s_size : Stmt := topS 12
noncomputable abbrev n_size : List Str := ["bounds", "many", "bound"]
theorem sc_size : FnScope n_size ["bounds"] (defScope s_size) := ⟨rfl, rfl, rfl, by decide +kernel, rfl, by decide +kernel, by decide +kernel⟩
theorem ok_size {fa : Addr} {fd : FuncData} (F : Fun K "size" "size" s_size fa fd) (hm : mg "size" = some (.ref fa)) (hb : Binds K fd ["bounds"] []) (bl : Bi mg) (gx : Gx K mg az zv) (ti : Ti K cl mg) (tx : Tx K cl)  : Con P w K cl mg base 1 "size" (on1 (m_size)) fa fd ["bounds"] := by
  refine fun_con (k := 0) F sc_size rfl ar1 hm hb (fun cdv A outer s H E hr => ?_)
  have nd := sc_size.nd
  refine ⟨_, (pss_cons (ps_set (i := 1) nd rfl (by first | exact Or.inl rfl | exact Or.inr rfl) pe_int) (pss_cons (ps_for PassesOwn.never rfl (listIK K (pv 0)) (pg_name (i := 2) nd rfl (by first | exact Or.inl rfl | exact Or.inr rfl)) (pss_cons (ps_set (i := 1) nd rfl (by first | exact Or.inl rfl | exact Or.inr rfl) (pe_op op_mulD (pv 1) (pv 2))) pss_nil)) (pss_cons (ps_ret (pv 1)) pss_never))), ?_⟩
  exact all1 fun bounds_1 => (tv_cons (sv_asg (i := 1) ev_int) (fun many_2 => (tv_cons (sv_for (f := some) (inv := (fun (b : D) => [.vl bounds_1, .vl b, .jk])) many_2 (iv_list (ev_v (i := 0) (d := bounds_1) rfl)) (.same (.same (.same .nil))) gv_name (fun c_4 b_3 => (sv_cons (sv_asg (i := 1) (ev_op o_mul (ev_v (i := 1) (d := b_3) rfl) (ev_v (i := 2) (d := c_4) rfl))) (fun many_5 => (sv_nil many_5 (.same (.same (.drop .nil)))))))) (fun s_9 => (tv_ret (ev_v (i := 1) (d := s_9) rfl))))))
/-! heard_bounds -/
noncomputable abbrev s_heard_bounds : Stmt := topS 17
noncomputable abbrev n_heard_bounds : List Str := ["house", "variable", "heard"]
theorem sc_heard_bounds : FnScope n_heard_bounds ["house", "variable"] (defScope s_heard_bounds) := ⟨rfl, rfl, rfl, by decide +kernel, rfl, by decide +kernel, by decide +kernel⟩
theorem ok_heard_bounds {fa : Addr} {fd : FuncData} (F : Fun K "heard_bounds" "heard_bounds" s_heard_bounds fa fd) (hm : mg "heard_bounds" = some (.ref fa)) (hb : Binds K fd ["house", "variable"] []) (bl : Bi mg) (gx : Gx K mg az zv) (ti : Ti K cl mg) (tx : Tx K cl)  : Con P w K cl mg base 1 "heard_bounds" (on2 (m_heard_bounds)) fa fd ["house", "variable"] := by
  refine fun_con (k := 0) F sc_heard_bounds rfl ar2 hm hb (fun cdv A outer s H E hr => ?_)
  have nd := sc_heard_bounds.nd
  refine ⟨_, (pss_cons (ps_ret (pe_lc (own := [("heard", 2)]) (g := (gName 2)) (tt := tYes) rfl nd (listIK K (pe_ix (ixK K) (fldK K (pv 0) rfl) (pv 1) (fun _ _ => rfl))) (blkOk_by (N := n_heard_bounds) (sc := defScope s_heard_bounds) (by decide +kernel)) (fun _ _ _ _ _ => pg_name (i := 2) nd rfl (by first | exact Or.inl rfl | exact Or.inr rfl)) (fun _ _ _ _ _ => pts_nil) (fun _ _ _ _ _ => (pe_callB (lenK K) (by rfl) bl.len (by decide +kernel) (pa_cons (pe_ix (ixK K) (fldK K (pv 0) rfl) (pv 2) (fun _ _ => rfl)) pa_nil))))) pss_never), ?_⟩
  exact all2 fun house_1 variable_2 => (tv_ret ((evn_lc (f := some) (iv_list (ev_op o_ix (ev_fld tx.House (.tail _ (.tail _ (.head _))) (ev_v (i := 0) (d := house_1) rfl)) (ev_v (i := 1) (d := variable_2) rfl))) gv_name (gw_name (by decide)) (fun c_5 => et_yes) (fun c_5 => (ev_cb o_len (ea_cons (ev_op o_ix (ev_fld tx.House (.tail _ (.head _)) (ev_v (i := 0) (d := house_1) rfl)) (ev_v (i := 2) (d := c_5) rfl)) ea_nil))))).ev)
/-! answer_bounds -/
noncomputable abbrev s_answer_bounds : Stmt := topS 18
noncomputable abbrev n_answer_bounds : List Str := ["house", "bounds", "variable"]
theorem sc_answer_bounds : FnScope n_answer_bounds ["house"] (defScope s_answer_bounds) := ⟨rfl, rfl, rfl, by decide +kernel, rfl, by decide +kernel, by decide +kernel⟩
theorem ok_answer_bounds {fa : Addr} {fd : FuncData} (F : Fun K "answer_bounds" "answer_bounds" s_answer_bounds fa fd) (hm : mg "answer_bounds" = some (.ref fa)) (hb : Binds K fd ["house"] []) (bl : Bi mg) (gx : Gx K mg az zv) (ti : Ti K cl mg) (tx : Tx K cl) {f0 : Addr} {fd0 : FuncData} (C_size : Con P w K cl mg base 1 "size" (on1 (m_size)) f0 fd0 ["bounds"]) {f1 : Addr} {fd1 : FuncData} (C_heard_bounds : Con P w K cl mg base 1 "heard_bounds" (on2 (m_heard_bounds)) f1 fd1 ["house", "variable"]) : Con P w K cl mg base 2 "answer_bounds" (on1 (m_answer_bounds)) fa fd ["house"] := by
  refine fun_con (k := 1) F sc_answer_bounds rfl ar1 hm hb (fun cdv A outer s H E hr => ?_)
  have nd := sc_answer_bounds.nd
  refine ⟨_, (pss_cons (ps_set (i := 1) nd rfl (by first | exact Or.inl rfl | exact Or.inr rfl) (pe_lst pa_nil)) (pss_cons (ps_for PassesOwn.never rfl (pi_range1 (by rfl) bl.range (pa_cons (pe_callB (lenK K) (by rfl) bl.len (by decide +kernel) (pa_cons (fldK K (pv 0) rfl) pa_nil)) pa_nil)) (pg_name (i := 2) nd rfl (by first | exact Or.inl rfl | exact Or.inr rfl)) (pss_cons (ps_expr (bmK K PySem.F.plainAttrs_list PySem.F.slot_list_extend PySem.F.type_list_extend mt_extend (pv 1) (pa_cons (pe_op op_rep (pe_lst (pa_cons (pe_callB (lenK K) (by rfl) bl.len (by decide +kernel) (pa_cons (pe_ix (ixK K) (fldK K (pv 0) rfl) (pv 2) (fun _ _ => rfl)) pa_nil)) pa_nil)) (pe_call C_size.ok (hr.mono (by omega)) (by rfl) C_size.mg C_size.kp C_size.bd .nil pass0 (pa_cons (pe_call C_heard_bounds.ok (hr.mono (by omega)) (by rfl) C_heard_bounds.mg C_heard_bounds.kp C_heard_bounds.bd .nil pass0 (pa_cons (pv 0) (pa_cons (pv 2) pa_nil))) pa_nil))) pa_nil))) pss_nil)) (pss_cons (ps_ret (pv 1)) pss_never))), ?_⟩
  exact all1 fun house_1 => (tv_cons (sv_asgN (i := 1) (evn_lst ea_nil)) (fun bounds_2 => (tv_cons (sv_for (f := some) (inv := (fun (b : D) => [.vl house_1, .ow (.l .v) b, .jk])) bounds_2 (iv_rng1 (ev_cb o_len (ea_cons (ev_fld tx.House (.head _) (ev_v (i := 0) (d := house_1) rfl)) ea_nil))) (.same (.same (.same .nil))) gv_name (fun c_6 b_5 => (sv_cons (sv_ext (i := 1) (d := b_5) rfl rfl ((evn_op o_rep ((evn_lst (ea_cons (ev_cb o_len (ea_cons (ev_op o_ix (ev_fld tx.House (.tail _ (.head _)) (ev_v (i := 0) (d := house_1) rfl)) (ev_v (i := 2) (d := c_6) rfl)) ea_nil)) ea_nil))).ev (ev_call (ea_cons (ev_call (ea_cons (ev_v (i := 0) (d := house_1) rfl) (ea_cons (ev_v (i := 2) (d := c_6) rfl) ea_nil))) ea_nil)))).ev) (fun bounds_22 => (sv_nil bounds_22 (.same (.same (.drop .nil)))))))) (fun s_24 => (tv_ret (ev_pre (i := 1) (d := s_24) rfl (ev_v (i := 1) (d := s_24) rfl)))))))
/-! way_count -/
noncomputable abbrev s_way_count : Stmt := topS 19
noncomputable abbrev n_way_count : List Str := ["house"]
theorem sc_way_count : FnScope n_way_count ["house"] (defScope s_way_count) := ⟨rfl, rfl, rfl, by decide +kernel, rfl, by decide +kernel, by decide +kernel⟩
theorem ok_way_count {fa : Addr} {fd : FuncData} (F : Fun K "way_count" "way_count" s_way_count fa fd) (hm : mg "way_count" = some (.ref fa)) (hb : Binds K fd ["house"] []) (bl : Bi mg) (gx : Gx K mg az zv) (ti : Ti K cl mg) (tx : Tx K cl) {f0 : Addr} {fd0 : FuncData} (C_size : Con P w K cl mg base 1 "size" (on1 (m_size)) f0 fd0 ["bounds"]) {f1 : Addr} {fd1 : FuncData} (C_answer_bounds : Con P w K cl mg base 2 "answer_bounds" (on1 (m_answer_bounds)) f1 fd1 ["house"]) : Con P w K cl mg base 3 "way_count" (on1 (m_way_count)) fa fd ["house"] := by
  refine fun_con (k := 2) F sc_way_count rfl ar1 hm hb (fun cdv A outer s H E hr => ?_)
  have nd := sc_way_count.nd
  refine ⟨_, (pss_cons (ps_ret (pe_call C_size.ok (hr.mono (by omega)) (by rfl) C_size.mg C_size.kp C_size.bd .nil pass0 (pa_cons (pe_call C_answer_bounds.ok (hr.mono (by omega)) (by rfl) C_answer_bounds.mg C_answer_bounds.kp C_answer_bounds.bd .nil pass0 (pa_cons (pv 0) pa_nil)) pa_nil))) pss_never), ?_⟩
  exact all1 fun house_1 => (tv_ret (ev_call (ea_cons (ev_call (ea_cons (ev_v (i := 0) (d := house_1) rfl) ea_nil)) ea_nil)))
/-! words_after -/
noncomputable abbrev s_words_after : Stmt := topS 21
noncomputable abbrev n_words_after : List Str := ["many"]
theorem sc_words_after : FnScope n_words_after ["many"] (defScope s_words_after) := ⟨rfl, rfl, rfl, by decide +kernel, rfl, by decide +kernel, by decide +kernel⟩
theorem ok_words_after {fa : Addr} {fd : FuncData} (F : Fun K "words_after" "words_after" s_words_after fa fd) (hm : mg "words_after" = some (.ref fa)) (hb : Binds K fd ["many"] []) (bl : Bi mg) (gx : Gx K mg az zv) (ti : Ti K cl mg) (tx : Tx K cl)  : Con P w K cl mg base 1 "words_after" (on1 (m_words_after)) fa fd ["many"] := by
  refine fun_con (k := 0) F sc_words_after rfl ar1 hm hb (fun cdv A outer s H E hr => ?_)
  have nd := sc_words_after.nd
  refine ⟨_, (pss_cons (ps_if (pt_cmpR op_eq (pv 0) pe_int (nomark _)) (pss_cons (ps_ret (pe_lst (pa_cons pe_str pa_nil))) pss_never) pss_nil) (pss_cons (ps_if (pt_cmpR op_lt (pv 0) (pe_glob (v := .int (5)) rfl gx.MOST_VARIABLES.1 gx.MOST_VARIABLES.2) (nomark _)) (pss_cons (ps_ret (pe_lst (pa_cons pe_str (pa_cons pe_str pa_nil)))) pss_never) pss_nil) (pss_cons (ps_ret (pe_lst (pa_cons pe_str pa_nil))) pss_never))), ?_⟩
  exact all1 fun many_1 => (tv_ifl (et_op o_eqF (ev_v (i := 0) (d := many_1) rfl) ev_int) (tv_ret ((evn_lst (ea_cons ev_str ea_nil))).ev) (tv_ifl (et_op o_lt (ev_v (i := 0) (d := many_1) rfl) ev_int) (tv_ret ((evn_lst (ea_cons ev_str (ea_cons ev_str ea_nil)))).ev) (tv_ret ((evn_lst (ea_cons ev_str ea_nil))).ev)))
/-! is_name -/
noncomputable abbrev s_is_name : Stmt := topS 9
noncomputable abbrev n_is_name : List Str := ["word", "sign"]
theorem sc_is_name : FnScope n_is_name ["word"] (defScope s_is_name) := ⟨rfl, rfl, rfl, by decide +kernel, rfl, by decide +kernel, by decide +kernel⟩
theorem ok_is_name {gC gP : Addr} {fa : Addr} {fd : FuncData} (F : FunC K "is_name" "is_name" s_is_name fa fd gC) (hm : mg "is_name" = some (.ref fa)) (hb : Binds K fd ["word"] []) (bl : Bi mg) (TB : GxR.TabB base mg gC gP) (hP : gP ∈ cl.t) (gx : Gx K mg az zv) (ti : Ti K cl mg) (tx : Tx K cl)  : Con P w K cl mg base 5 "is_name" (on1 (m_is_name)) fa fd ["word"] := by
  refine fun_conC (k := 4) F sc_is_name rfl ar1 hm hb (fun A outer s H E hr => ?_)
  have nd := sc_is_name.nd
  refine ⟨_, (pss_cons (ps_if (PW.pt (pw_or (pt_not (pt_val (pe_callB (isiK K) (by rfl) bl.isinstance (by decide +kernel) (pa_cons (pv 0) (pa_cons (pe_bltn (v := .ty "str") (by rfl) bl.str (by decide +kernel) rfl) pa_nil))))) (pw_or (pt_cmpR op_eq (pv 0) pe_str (nomark _)) (pw_or (pt_cmpR op_gt (pe_callB (lenK K) (by rfl) bl.len (by decide +kernel) (pa_cons (pv 0) pa_nil)) pe_int (nomark _)) (pw_or1 (pt_cmpR (inK K) (pv 0) (pe_glob (v := .ref (az 2)) rfl gx.NOT_NAMES.1 rfl) (by rfl))))))) (pss_cons (ps_ret pe_bl) pss_never) pss_nil) (pss_cons (ps_ret (pe_and (pe_cmpR op_inT (pe_ix (ixK K) (pv 0) pe_int (fun _ _ => rfl)) (pe_glob (v := .str "abcdefghijklmnopqrstuvwxyz") rfl gx.LETTERS.1 gx.LETTERS.2) (by rfl)) (pe_one (pe_allG (k := 0) (P := gP) (own := [("sign", 1)]) (g := (gName 1)) (hr.mono (by omega)) (by rfl) bl.all TB rfl nd (gscp_by (blkOk_by (N := n_is_name) (sc := defScope s_is_name) (by decide +kernel)) (by decide +kernel) rfl (by decide +kernel)) (pi_str (pv 0)) (fun _ _ _ _ _ _ => pg_name (i := 1) nd rfl (by first | exact Or.inl rfl | exact Or.inr rfl)) (fun _ _ _ _ _ _ hr => (pe_cmpR op_inT (pv 1) (pe_op op_addD (pe_glob (v := .str "abcdefghijklmnopqrstuvwxyz") rfl gx.LETTERS.1 gx.LETTERS.2) (pe_glob (v := .str "0123456789") rfl gx.DIGITS.1 gx.DIGITS.2)) (by rfl))) (by intro _; rfl))))) pss_never)), ?_⟩
  exact all1 fun word_1 => (tv_ifl (et_or (et_not (et_B (ev_isi .str (ev_v (i := 0) (d := word_1) rfl)))) (et_or (et_op o_eqF (ev_v (i := 0) (d := word_1) rfl) ev_str) (et_or (et_op o_gt (ev_cb o_len (ea_cons (ev_v (i := 0) (d := word_1) rfl) ea_nil)) ev_int) (et_op o_in (ev_v (i := 0) (d := word_1) rfl) (ev_glt gx.NOT_NAMES))))) (tv_ret ev_bl) (tv_ret (ev_and (ev_op o_inT (ev_op o_ix (ev_v (i := 0) (d := word_1) rfl) ev_int) ev_str) (ev_allG (f := some) hP (iv_str (ev_v (i := 0) (d := word_1) rfl)) gv_name (gw_name (by decide)) (fun c_19 => (ev_op o_inT (ev_v (i := 1) (d := c_19) rfl) (ev_op o_add ev_str ev_str)))))))
/-! Reader.take_name -/
noncomputable abbrev s_Reader_take_name : Stmt := inClass (topS 10) 5
noncomputable abbrev n_Reader_take_name : List Str := ["self", "used", "word"]
theorem sc_Reader_take_name : FnScope n_Reader_take_name ["self", "used"] (defScope s_Reader_take_name) := ⟨rfl, rfl, rfl, by decide +kernel, rfl, by decide +kernel, by decide +kernel⟩
theorem ok_Reader_take_name {kb : Nat} {mc mi : D → Option D} {gc fa : Addr} {fd : FuncData} (F : FunC K "take_name" "Reader.take_name" s_Reader_take_name fa fd gc) (hm : Meth K (cl.c 0) "take_name" fa) (hb : Binds K fd ["self", "used"] []) (tx : ClsF K (cl.c 0) ["words", "at"]) {fI : Addr} {fdI : FuncData} (bad : BadC P w K mg base (cl.c kb) fI fdI) {f0 : Addr} {fd0 : FuncData} (C_coming : ConM P w K cl mg base 2 0 "coming" (on1 mc) f0 fd0 ["self"]) {f1 : Addr} {fd1 : FuncData} (C_is_name : Con P w K cl mg base 5 "is_name" (on1 mi) f1 fd1 ["word"]) :
    ConOE P w K cl mg base 6 0 "take_name" (shF [("words", .l .v)]) (own1E (r_Reader_take_name kb mc mi)) fa fd ["self", "used"] := by
  refine ⟨ownE_ok (k := 5) F sc_Reader_take_name rfl (fun d ds r h => ?_) (fun A outer s H E hr => ?_), hm, hb⟩
  · match ds, h with
    | [a], _ => rfl
  have nd := sc_Reader_take_name.nd
  have tk := L2N.takes_of (X := cxOf (L2N.CX P w) P w K mg base n_Reader_take_name "Reader.take_name" (defScope s_Reader_take_name) fa (.ref gc) A outer s H E) (E := E) rfl rfl rfl rfl
  refine ⟨_, (pss_cons (ps_set (i := 2) nd rfl (by first | exact Or.inl rfl | exact Or.inr rfl) (pe_meth0 (pv 0) tx.c C_coming.mt C_coming.ok (hr.mono (by omega)) C_coming.bd .nil pass0)) (pss_cons (ps_if (PW.pt (pw_or (pt_cmpR (inK K) (pv 2) (pv 1) (by rfl)) (pw_or1 (pt_not (pt_val (pe_call C_is_name.ok (hr.mono (by omega)) (by rfl) C_is_name.mg C_is_name.kp C_is_name.bd .nil pass0 (pa_cons (pv 2) pa_nil))))))) (pss_cons (ps_raiseO (E := E) rfl tk bad.T bad.iC bad.tI bad.ok (hr.mono (by omega)) bad.bd rfl bad.mg (pa_cons (fldK K (pv 0) rfl) pa_nil)) pss_never) pss_nil) (pss_cons (ps_fldaug (pv 0) pe_int in_add) (pss_cons (ps_ret (pv 2)) pss_never)))), ?_⟩
  refine fun xa H0 self_2 ds hl gr => match ds, hl with | [used_1], _ => ?_
  show QVE K cl xa _ _ _ _ _ (r_Reader_take_name kb mc mi self_2 used_1)
  unfold r_Reader_take_name raiseIf
  exact (qve_cons (sv_asg (i := 2) (ev_lend (i := 0) (d := self_2) rfl (ev_meth (ev_v (i := 0) (d := self_2) rfl) ea_nil))).e (fun word_3 => (qve_cons (sve_ifraise (et_or (et_op o_in (ev_v (i := 2) (d := word_3) rfl) (ev_v (i := 1) (d := used_1) rfl)) (et_not (et_B (ev_call (ea_cons (ev_v (i := 2) (d := word_3) rfl) ea_nil))))) (sve_raiseO (ev_lend (i := 0) (d := self_2) rfl (ev_fld tx (.tail _ (.head _)) (ev_v (i := 0) (d := self_2) rfl))))) (fun u_8 => (qve_cons (SV.e (sv_fldAugJ (i := 0) (x := self_2) tx (.tail _ (.head _)) rfl rfl ev_int)) (fun self_12 => (qve_ret (EV.e (ev_v (i := 2) (d := word_3) rfl)) (fun _ => rfl))))))))
/-! read_words -/
noncomputable abbrev s_read_words : Stmt := topS 22
noncomputable abbrev n_read_words : List Str := ["reader", "said"]
theorem sc_read_words : FnScope n_read_words ["reader"] (defScope s_read_words) := ⟨rfl, rfl, rfl, by decide +kernel, rfl, by decide +kernel, by decide +kernel⟩
theorem ok_read_words {mc mi : D → Option D} {fn : D → D → Rs (D × D)} {gc fa : Addr} {fd : FuncData} (F : FunC K "read_words" "read_words" s_read_words fa fd gc) (hm : mg "read_words" = some (.ref fa)) (hb : Binds K fd ["reader"] []) (tx : ClsF K (cl.c 0) ["words", "at"]) {f0 : Addr} {fd0 : FuncData} (C_take_name : ConOE P w K cl mg base 6 0 "take_name" (shF [("words", .l .v)]) (own1E fn) f0 fd0 ["self", "used"])
    {f1 : Addr} {fd1 : FuncData} (C_coming : ConM P w K cl mg base 2 0 "coming" (on1 mc) f1 fd1 ["self"]) {f2 : Addr} {fd2 : FuncData} (C_is_name : Con P w K cl mg base 5 "is_name" (on1 mi) f2 fd2 ["word"]) :
    ConFE P w K cl mg base 7 "read_words" (shF [("words", .l .v)]) (own0E (r_read_words mc mi fn)) fa fd ["reader"] := by
  refine ⟨ownE_ok (k := 6) F sc_read_words rfl (fun d ds r h => ?_) (fun A outer s H E hr => ?_), hm, F.kp, hb⟩
  · match ds, h with
    | [], _ => rfl
  have nd := sc_read_words.nd
  have tk := L2N.takes_of (X := cxOf (L2N.CX P w) P w K mg base n_read_words "read_words" (defScope s_read_words) fa (.ref gc) A outer s H E) (E := E) rfl rfl rfl rfl
  refine ⟨_, (pss_cons (ps_set (i := 1) nd rfl (by first | exact Or.inl rfl | exact Or.inr rfl) (pe_lst (pa_cons (pe_meth (E := E) (pv 0) tx.c C_take_name.mt C_take_name.ok (hr.mono (by omega)) C_take_name.bd .nil (passE tk) (pa_cons (pe_lst pa_nil) pa_nil)) pa_nil)))
    (pss_cons (ps_expr (bmK K PySem.F.plainAttrs_list PySem.F.slot_list_append PySem.F.type_list_append mt_append (pv 1) (pa_cons (pe_meth (E := E) (pv 0) tx.c C_take_name.mt C_take_name.ok (hr.mono (by omega)) C_take_name.bd .nil (passE tk) (pa_cons (pv 1) pa_nil)) pa_nil)))
    (pss_cons (ps_if (pt_val (pe_call C_is_name.ok (hr.mono (by omega)) (by rfl) C_is_name.mg C_is_name.kp C_is_name.bd .nil pass0 (pa_cons (pe_meth0 (pv 0) tx.c C_coming.mt C_coming.ok (hr.mono (by omega)) C_coming.bd .nil pass0) pa_nil)))
      (pss_cons (ps_expr (bmK K PySem.F.plainAttrs_list PySem.F.slot_list_append PySem.F.type_list_append mt_append (pv 1) (pa_cons (pe_meth (E := E) (pv 0) tx.c C_take_name.mt C_take_name.ok (hr.mono (by omega)) C_take_name.bd .nil (passE tk) (pa_cons (pv 1) pa_nil)) pa_nil))) pss_nil) pss_nil)
    (pss_cons (ps_ret (pv 1)) pss_never)))), ?_⟩
  refine fun xa H0 reader_1 ds hl gr => match ds, hl with | [], _ => ?_
  show QVE K cl xa _ _ _ _ _ (r_read_words mc mi fn reader_1)
  unfold r_read_words apR tn1
  refine qve_cons (sve_newE (j := 1) (eve_meth (i := 0) (d := reader_1) rfl rfl (ea_cons (evn_lst ea_nil).ev ea_nil))) fun b1 => ?_
  refine qve_cons (sve_app (i := 1) (d := .lst [b1.1]) rfl (fun _ => rfl) (eve_methL (i := 0) (k := 1) (d := b1.2) (dk := .lst [b1.1]) rfl rfl (by decide) (ea_cons (ev_v (i := 1) (d := .lst [b1.1]) rfl) ea_nil))) fun r2 => ?_
  refine qve_cons (post := fun (g : D × D) => [.ow (.j (some xa) (shF [("words", .l .v)])) g.1, .ow (.l .v) g.2]) (sve_if (et_lend (i := 0) (d := r2.2.2) rfl (et_B (ev_call (ea_cons (ev_meth (ev_v (i := 0) (d := r2.2.2) rfl) ea_nil) ea_nil)))) ?_ (sve_next (.same (.same .nil)))) fun g => qve_ret (EV.e (ev_pre (i := 1) (d := g.2) rfl (ev_v (i := 1) (d := g.2) rfl))) (fun _ => rfl)
  exact sve_cons (sve_app (i := 1) (d := r2.1) rfl (fun _ => rfl) (eve_methL (i := 0) (k := 1) (d := r2.2.2) (dk := r2.1) rfl rfl (by decide) (ea_cons (ev_v (i := 1) (d := r2.1) rfl) ea_nil))) fun r3 => sve_next (.same (.same .nil))
/-! Reader.take_index -/
noncomputable abbrev s_Reader_take_index : Stmt := inClass (topS 10) 4
noncomputable abbrev n_Reader_take_index : List Str := ["self", "allowed"]
theorem sc_Reader_take_index : FnScope n_Reader_take_index ["self", "allowed"] (defScope s_Reader_take_index) := ⟨rfl, rfl, rfl, by decide +kernel, rfl, by decide +kernel, by decide +kernel⟩
theorem ok_Reader_take_index {ft : D → D → Rs (D × D)} {gc fa : Addr} {fd : FuncData} (F : FunC K "take_index" "Reader.take_index" s_Reader_take_index fa fd gc) (hm : Meth K (cl.c 0) "take_index" fa) (hb : Binds K fd ["self", "allowed"] []) (tx : ClsF K (cl.c 0) ["words", "at"]) {f0 : Addr} {fd0 : FuncData} (C_take : ConOE P w K cl mg base 3 0 "take" (shF [("words", .l .v)]) (own1E ft) f0 fd0 ["self", "allowed"]) :
    ConOE P w K cl mg base 4 0 "take_index" (shF [("words", .l .v)]) (own1E (r_Reader_take_index ft)) fa fd ["self", "allowed"] := by
  refine ⟨ownE_ok (k := 3) F sc_Reader_take_index rfl (fun d ds r h => ?_) (fun A outer s H E hr => ?_), hm, hb⟩
  · match ds, h with
    | [a], _ => rfl
  have nd := sc_Reader_take_index.nd
  have tk := L2N.takes_of (X := cxOf (L2N.CX P w) P w K mg base n_Reader_take_index "Reader.take_index" (defScope s_Reader_take_index) fa (.ref gc) A outer s H E) (E := E) rfl rfl rfl rfl
  refine ⟨_, (pss_cons (ps_ret (bmK K PySem.F.plainAttrs_list PySem.F.slot_list_index PySem.F.type_list_index mt_index (pv 1) (pa_cons (pe_meth (E := E) (pv 0) tx.c C_take.mt C_take.ok (hr.mono (by omega)) C_take.bd .nil (passE tk) (pa_cons (pv 1) pa_nil)) pa_nil))) pss_never), ?_⟩
  refine fun xa H0 self_2 ds hl gr => match ds, hl with | [allowed_1], _ => ?_
  show QVE K cl xa _ _ _ _ _ (r_Reader_take_index ft self_2 allowed_1)
  unfold r_Reader_take_index
  exact qve_ret (eve_index (ev_v (i := 1) (d := allowed_1) rfl) (eve_meth (i := 0) (d := self_2) rfl rfl (ea_cons (ev_v (i := 1) (d := allowed_1) rfl) ea_nil))) (fun _ => rfl)
/-! read_heard -/
noncomputable abbrev s_read_heard : Stmt := topS 23
noncomputable abbrev n_read_heard : List Str := ["reader", "earlier", "heard", "start"]
theorem sc_read_heard : FnScope n_read_heard ["reader", "earlier"] (defScope s_read_heard) := ⟨rfl, rfl, rfl, by decide +kernel, rfl, by decide +kernel, by decide +kernel⟩
theorem ok_read_heard {mc : D → Option D} {ft fi : D → D → Rs (D × D)} {gc fa : Addr} {fd : FuncData} (F : FunC K "read_heard" "read_heard" s_read_heard fa fd gc) (hm : mg "read_heard" = some (.ref fa)) (hb : Binds K fd ["reader", "earlier"] []) (tx : ClsF K (cl.c 0) ["words", "at"]) {f0 : Addr} {fd0 : FuncData} (C_take : ConOE P w K cl mg base 3 0 "take" (shF [("words", .l .v)]) (own1E ft) f0 fd0 ["self", "allowed"])
    {f1 : Addr} {fd1 : FuncData} (C_take_index : ConOE P w K cl mg base 4 0 "take_index" (shF [("words", .l .v)]) (own1E fi) f1 fd1 ["self", "allowed"]) {f2 : Addr} {fd2 : FuncData} (C_coming : ConM P w K cl mg base 2 0 "coming" (on1 mc) f2 fd2 ["self"]) :
    ConFE P w K cl mg base 5 "read_heard" (shF [("words", .l .v)]) (own1E (r_read_heard mc ft fi)) fa fd ["reader", "earlier"] := by
  refine ⟨ownE_ok (k := 4) F sc_read_heard rfl (fun d ds r h => ?_) (fun A outer s H E hr => ?_), hm, F.kp, hb⟩
  · match ds, h with
    | [a], _ => rfl
  have nd := sc_read_heard.nd
  have tk := L2N.takes_of (X := cxOf (L2N.CX P w) P w K mg base n_read_heard "read_heard" (defScope s_read_heard) fa (.ref gc) A outer s H E) (E := E) rfl rfl rfl rfl
  refine ⟨_, (pss_cons (ps_set (i := 2) nd rfl (by first | exact Or.inl rfl | exact Or.inr rfl) (pe_lst pa_nil))
    (pss_cons (ps_if (pt_cmpR op_eq (pe_meth (E := E) (pv 0) tx.c C_take.mt C_take.ok (hr.mono (by omega)) C_take.bd .nil (passE tk) (pa_cons (pe_ifExp (truthK K (pv 1) (by intro _; rfl)) (pe_lst (pa_cons pe_str (pa_cons pe_str pa_nil))) (pe_lst (pa_cons pe_str pa_nil))) pa_nil)) pe_str (nomark _)) (pss_cons (ps_ret (pv 2)) pss_never) pss_nil)
    (pss_cons (ps_expr (bmK K PySem.F.plainAttrs_list PySem.F.slot_list_append PySem.F.type_list_append mt_append (pv 2) (pa_cons (pe_meth (E := E) (pv 0) tx.c C_take_index.mt C_take_index.ok (hr.mono (by omega)) C_take_index.bd .nil (passE tk) (pa_cons (pv 1) pa_nil)) pa_nil)))
    (pss_cons (ps_while PassesOwn.leaving (pt_cmpR op_ne (pe_meth0 (pv 0) tx.c C_coming.mt C_coming.ok (hr.mono (by omega)) C_coming.bd .nil pass0) pe_str (nomark _))
      (pss_cons (ps_set (i := 3) nd rfl (by first | exact Or.inl rfl | exact Or.inr rfl) (pe_op op_addD (pe_ix (ixK K) (pv 2) (pe_un un_neg pe_int) (fun _ _ => rfl)) pe_int))
      (pss_cons (ps_expr (bmK K PySem.F.plainAttrs_list PySem.F.slot_list_append PySem.F.type_list_append mt_append (pv 2) (pa_cons (pe_op op_addD (pv 3) (pe_meth (E := E) (pv 0) tx.c C_take_index.mt C_take_index.ok (hr.mono (by omega)) C_take_index.bd .nil (passE tk) (pa_cons (pe_slice (slK K) (pv 1) (po_some (pv 3)) po_none) pa_nil))) pa_nil))) pss_nil)))
    (pss_cons (ps_expr (pe_meth (E := E) (pv 0) tx.c C_take.mt C_take.ok (hr.mono (by omega)) C_take.bd .nil (passE tk) (pa_cons (pe_lst (pa_cons pe_str pa_nil)) pa_nil)))
    (pss_cons (ps_ret (pv 2)) pss_never)))))), ?_⟩
  refine fun xa H0 reader_1 ds hl gr => match ds, hl with | [earlier_2], _ => ?_
  show QVE K cl xa _ _ _ _ _ (r_read_heard mc ft fi reader_1 earlier_2)
  unfold r_read_heard apR tk1 ti1
  refine qve_cons (SV.e (sv_asgN (i := 2) (evn_lst ea_nil))) fun heard_3 => ?_
  refine qve_ifl (ete_opL o_eqF (eve_meth (i := 0) (d := reader_1) rfl rfl (ea_cons (ev_ife (et_tru (ev_v (i := 1) (d := earlier_2) rfl)) ((evn_lst (ea_cons ev_str (ea_cons ev_str ea_nil)))).ev ((evn_lst (ea_cons ev_str ea_nil))).ev) ea_nil)) (fun b => ev_str)) (fun p => qve_ret (EV.e (ev_pre (i := 2) (d := heard_3) rfl (ev_v (i := 2) (d := heard_3) rfl))) (fun _ => rfl)) fun p => ?_
  refine qve_cons (sve_app (i := 2) (d := heard_3) rfl (fun _ => rfl) (eve_meth (i := 0) (d := p.2.2) rfl rfl (ea_cons (ev_v (i := 1) (d := earlier_2) rfl) ea_nil))) fun r1 => ?_
  refine qve_cons (sve_while (inv := fun (b : D × D) => [.ow (.j (some xa) (shF [("words", .l .v)])) b.2, .vl earlier_2, .ow (.l .v) b.1, .jk]) 1000 (r1.1, r1.2.2) (.same (.same (.same (.same .nil)))) (fun b => ?_) (fun b => ?_)) fun g => qve_cons (sve_drop (eve_meth (i := 0) (d := g.2) rfl rfl (ea_cons (evn_lst (ea_cons ev_str ea_nil)).ev ea_nil))) fun b => qve_ret (EV.e (ev_pre (i := 2) (d := g.1) rfl (ev_v (i := 2) (d := g.1) rfl))) (fun _ => rfl)
  · exact ete_as (S := [.ow (.j (some xa) (shF [("words", .l .v)])) b.2, .vl earlier_2, .ow (.l .v) b.1, .jk]) (nx := fun _ => b) (inv := fun (b : D × D) => [.ow (.j (some xa) (shF [("words", .l .v)])) b.2, .vl earlier_2, .ow (.l .v) b.1, .jk]) (post := fun _ => [.ow (.j (some xa) (shF [("words", .l .v)])) b.2, .vl earlier_2, .ow (.l .v) b.1, .jk]) (ET.e (et_lend (S := [.ow (.j (some xa) (shF [("words", .l .v)])) b.2, .vl earlier_2, .ow (.l .v) b.1, .jk]) (i := 0) (d := b.2) rfl (et_op o_neF (ev_meth (ev_v (i := 0) (d := b.2) rfl) ea_nil) ev_str))) (fun _ => rfl)
  · refine sve_cons (SV.e (sv_asg (i := 3) (ev_lend (i := 2) (d := b.1) rfl (ev_op o_add (ev_op o_ix (ev_v (i := 2) (d := b.1) rfl) (ev_un (fun G H x d z gh r h Q q => o_neg gh r h Q q) ev_int)) ev_int)))) fun st => ?_
    exact sve_cons (sve_app (i := 2) (d := b.1) rfl (fun _ => rfl) (eve_opR o_add (ev_v (i := 3) (d := st) rfl) (eve_meth (i := 0) (d := b.2) rfl rfl (ea_cons ((evn_sl (ev_v (i := 1) (d := earlier_2) rfl) (eo_so (ev_v (i := 3) (d := st) rfl)) eo_no)).ev ea_nil)))) fun r => sve_next (.same (.same (.same (.drop .nil))))
/-! parse_house -/
noncomputable abbrev s_parse_house : Stmt := topS 20
noncomputable abbrev n_parse_house : List Str := ["text", "reader", "names", "words", "heard", "earlier", "house"]
theorem sc_parse_house : FnScope n_parse_house ["text"] (defScope s_parse_house) := ⟨rfl, rfl, rfl, by decide +kernel, rfl, by decide +kernel, by decide +kernel⟩
theorem ok_parse_house {kn : Nat} {mkR mkH : List D → Option D} {mwa mwc : D → Option D} {ft fn : D → D → Rs (D × D)} {fw : D → Rs (D × D)} {fh : D → D → Rs (D × D)} {fF : D → List D → Rs (D × D)} {gc fa : Addr} {fd : FuncData} (F : FunC K "parse_house" "parse_house" s_parse_house fa fd gc) (hm : mg "parse_house" = some (.ref fa)) (hb : Binds K fd ["text"] []) (ble : mg "len" = none) (bli : mg "list" = none) (gx : Gx K mg az zv) (tx : ClsF K (cl.c 0) ["words", "at"]) (pl : PlC K mg "NotAllowed" (cl.c kn))
    {f0 : Addr} {fd0 : FuncData} (C_Reader : ConJ P w K cl mg base 1 0 "Reader" (shF [("words", .l .v)]) mkR f0 fd0 ["self", "text"]) {f1 : Addr} {fd1 : FuncData} (C_House : ConI P w K cl mg base 1 1 "House" mkH f1 fd1 ["self", "names", "words", "heard"]) {f2 : Addr} {fd2 : FuncData} (C_words_after : Con P w K cl mg base 1 "words_after" (on1 mwa) f2 fd2 ["many"]) {f3 : Addr} {fd3 : FuncData} (C_way_count : Con P w K cl mg base 3 "way_count" (on1 mwc) f3 fd3 ["house"])
    {f4 : Addr} {fd4 : FuncData} (C_take : ConOE P w K cl mg base 3 0 "take" (shF [("words", .l .v)]) (own1E ft) f4 fd4 ["self", "allowed"]) {f5 : Addr} {fd5 : FuncData} (C_take_name : ConOE P w K cl mg base 6 0 "take_name" (shF [("words", .l .v)]) (own1E fn) f5 fd5 ["self", "used"]) {f6 : Addr} {fd6 : FuncData} (C_read_words : ConFE P w K cl mg base 7 "read_words" (shF [("words", .l .v)]) (own0E fw) f6 fd6 ["reader"]) {f7 : Addr} {fd7 : FuncData} (C_read_heard : ConFE P w K cl mg base 5 "read_heard" (shF [("words", .l .v)]) (own1E fh) f7 fd7 ["reader", "earlier"])
    {f8 : Addr} {fd8 : FuncData} (C_finish : ConOE P w K cl mg base 3 0 "finish" (shF [("words", .l .v)]) fF f8 fd8 ["self"]) :
    ConE P w K cl mg base 8 "parse_house" (on1E (r_parse_house kn mkR mkH mwa mwc ft fn fw fh fF)) fa fd ["text"] := by
  refine fun_conE (k := 7) F sc_parse_house rfl arE1 hm hb (fun A outer s H E hr => ?_)
  have nd := sc_parse_house.nd
  have tk := L2N.takes_of (X := cxOf (L2N.CX P w) P w K mg base n_parse_house "parse_house" (defScope s_parse_house) fa (.ref gc) A outer s H E) (E := E) rfl rfl rfl rfl
  refine ⟨_, (pss_cons (ps_set (i := 1) nd rfl (by first | exact Or.inl rfl | exact Or.inr rfl) (pe_make C_Reader.mkc C_Reader.ok (hr.mono (by omega)) (by rfl) C_Reader.mg C_Reader.bd .nil pass0 (pa_cons (pv 0) pa_nil)))
    (pss_cons (ps_par3 (i := 2) (j := 3) (l := 4) rfl nd rfl rfl rfl (by decide) (by decide) (by decide) rfl rfl rfl (pa_cons (pe_lst pa_nil) (pa_cons (pe_lst pa_nil) (pa_cons (pe_lst pa_nil) pa_nil))) (by rfl))
    (pss_cons (ps_expr (pe_meth (E := E) (pv 1) tx.c C_take.mt C_take.ok (hr.mono (by omega)) C_take.bd .nil (passE tk) (pa_cons (pe_lst (pa_cons pe_str pa_nil)) pa_nil)))
    (pss_cons (ps_while PassesOwn.leaving (pt_cmpR op_eq (pe_meth (E := E) (pv 1) tx.c C_take.mt C_take.ok (hr.mono (by omega)) C_take.bd .nil (passE tk) (pa_cons (pe_call C_words_after.ok (hr.mono (by omega)) (by rfl) C_words_after.mg C_words_after.kp C_words_after.bd .nil pass0 (pa_cons (pe_callB (lenK K) (by rfl) ble (by decide +kernel) (pa_cons (pv 2) pa_nil)) pa_nil)) pa_nil)) pe_str (nomark _))
      (pss_cons (ps_set (i := 5) nd rfl (by first | exact Or.inl rfl | exact Or.inr rfl) (pe_callTy (listK K) (by rfl) bli (by decide +kernel) (pa_cons (pv 2) pa_nil)))
      (pss_cons (ps_expr (bmK K PySem.F.plainAttrs_list PySem.F.slot_list_append PySem.F.type_list_append mt_append (pv 2) (pa_cons (pe_meth (E := E) (pv 1) tx.c C_take_name.mt C_take_name.ok (hr.mono (by omega)) C_take_name.bd .nil (passE tk) (pa_cons (pv 5) pa_nil)) pa_nil)))
      (pss_cons (ps_expr (pe_meth (E := E) (pv 1) tx.c C_take.mt C_take.ok (hr.mono (by omega)) C_take.bd .nil (passE tk) (pa_cons (pe_lst (pa_cons pe_str pa_nil)) pa_nil)))
      (pss_cons (ps_expr (bmK K PySem.F.plainAttrs_list PySem.F.slot_list_append PySem.F.type_list_append mt_append (pv 3) (pa_cons (pe_call (E := E) C_read_words.ok (hr.mono (by omega)) (by rfl) C_read_words.mg C_read_words.kp C_read_words.bd .nil (passE tk) (pa_cons (pv 1) pa_nil)) pa_nil)))
      (pss_cons (ps_expr (bmK K PySem.F.plainAttrs_list PySem.F.slot_list_append PySem.F.type_list_append mt_append (pv 4) (pa_cons (pe_call (E := E) C_read_heard.ok (hr.mono (by omega)) (by rfl) C_read_heard.mg C_read_heard.kp C_read_heard.bd .nil (passE tk) (pa_cons (pv 1) (pa_cons (pv 5) pa_nil))) pa_nil))) pss_nil))))))
    (pss_cons (ps_expr (pe_meth0 (E := E) (pv 1) tx.c C_finish.mt C_finish.ok (hr.mono (by omega)) C_finish.bd .nil (passE tk)))
    (pss_cons (ps_set (i := 6) nd rfl (by first | exact Or.inl rfl | exact Or.inr rfl) (pe_make C_House.mkc C_House.ok (hr.mono (by omega)) (by rfl) C_House.mg C_House.bd .nil pass0 (pa_cons (pv 2) (pa_cons (pv 3) (pa_cons (pv 4) pa_nil)))))
    (pss_cons (ps_if (pt_cmpR op_gt (pe_call C_way_count.ok (hr.mono (by omega)) (by rfl) C_way_count.mg C_way_count.kp C_way_count.bd .nil pass0 (pa_cons (pv 6) pa_nil)) (pe_glob (v := .int (512)) rfl gx.MOST_WAYS.1 gx.MOST_WAYS.2) (nomark _)) (pss_cons (ps_raiseN (E := E) rfl tk pl rfl (pa_cons (pe_joined (.cons pe_str (.cons (pe_fmt (pe_glob (v := .int (512)) rfl gx.MOST_WAYS.1 gx.MOST_WAYS.2)) (.cons pe_str .nil)))) pa_nil)) pss_never) pss_nil)
    (pss_cons (ps_ret (pv 6)) pss_never)))))))), ?_⟩
  refine fun ds hl => match ds, hl with | [text_1], _ => ?_
  show TVE K cl _ _ _ _ _ (r_parse_house kn mkR mkH mwa mwc ft fn fw fh fF text_1)
  unfold r_parse_house raiseIf tk1 tn1 fn1 apR
  refine tve_cons (SV.e (sv_asgO (i := 1) (evo_make (ea_cons (ev_v (i := 0) (d := text_1) rfl) ea_nil)))) fun rd => ?_
  refine tve_cons (SV.e (sv_three3 (i := 2) (j := 3) (k := 4) (Nat.le_of_ble_eq_true rfl) (Nat.le_of_ble_eq_true rfl) (Nat.le_of_ble_eq_true rfl) (by decide) (by decide) (by decide))) fun _ => ?_
  refine tve_cons (sve_drop (eve_meth (i := 1) (d := rd) rfl rfl (ea_cons (evn_lst (ea_cons ev_str ea_nil)).ev ea_nil))) fun b0 => ?_
  refine tve_cons (sve_while (inv := fun (b : D × D × D × D) => [.vl text_1, .ow (.j none (shF [("words", .l .v)])) b.1, .ow (.l .v) b.2.1, .ow (.l .v) b.2.2.1, .ow (.l .v) b.2.2.2, .jk, .jk]) 1000 (b0.2, .lst [], .lst [], .lst []) (.same (.same (.same (.same (.same (.same (.same .nil))))))) (fun b => ?_) (fun b => ?_)) fun g => ?_
  · exact ete_as (tst := fun (g : Bool × D × D) => g.1) (nx := fun (g : Bool × D × D) => (g.2.2, b.2)) (inv := fun (b : D × D × D × D) => [.vl text_1, .ow (.j none (shF [("words", .l .v)])) b.1, .ow (.l .v) b.2.1, .ow (.l .v) b.2.2.1, .ow (.l .v) b.2.2.2, .jk, .jk]) (ete_opL o_eqF (eve_meth (i := 1) (d := b.1) rfl rfl (ea_cons (ev_call (ea_cons (ev_lend (i := 2) (d := b.2.1) rfl (ev_cb o_len (ea_cons (ev_v (i := 2) (d := b.2.1) rfl) ea_nil))) ea_nil)) ea_nil)) (fun _ => ev_str)) (fun _ => rfl)
  · refine sve_cons (SV.e (sv_asg (i := 5) (evn_lend (i := 2) (d := b.2.1) rfl (evn_cb o_list (ea_cons (ev_v (i := 2) (d := b.2.1) rfl) ea_nil))).ev)) fun earlier => ?_
    refine sve_cons (sve_app (i := 2) (d := b.2.1) rfl (fun _ => rfl) (eve_meth (i := 1) (d := b.1) rfl rfl (ea_cons (ev_v (i := 5) (d := earlier) rfl) ea_nil))) fun r1 => ?_
    refine sve_cons (sve_drop (eve_meth (i := 1) (d := r1.2.2) rfl rfl (ea_cons (evn_lst (ea_cons ev_str ea_nil)).ev ea_nil))) fun b1 => ?_
    refine sve_cons (sve_app (i := 3) (d := b.2.2.1) rfl (fun _ => rfl) (eve_fun (i := 1) (d := b1.2) rfl rfl ea_nil)) fun r2 => ?_
    exact sve_cons (sve_app (i := 4) (d := b.2.2.2) rfl (fun _ => rfl) (eve_fun (i := 1) (d := r2.2.2) rfl rfl (ea_cons (ev_v (i := 5) (d := earlier) rfl) ea_nil))) fun r3 => sve_next (.same (.same (.same (.same (.same (.drop (.same .nil)))))))
  refine tve_cons (sve_drop (eve_meth (i := 1) (d := g.1) rfl rfl ea_nil)) fun b7 => ?_
  refine tve_shr (i := 2) (d := g.2.1) rfl (tve_shr (i := 3) (d := g.2.2.1) rfl (tve_shr (i := 4) (d := g.2.2.2) rfl ?_))
  refine tve_cons (SV.e (sv_asg (i := 6) (ev_make C_House.ob (ea_cons (ev_v (i := 2) (d := g.2.1) rfl) (ea_cons (ev_v (i := 3) (d := g.2.2.1) rfl) (ea_cons (ev_v (i := 4) (d := g.2.2.2) rfl) ea_nil)))))) fun house => ?_
  refine tve_cons (sve_ifraise (et_op o_gt (ev_call (ea_cons (ev_v (i := 6) (d := house) rfl) ea_nil)) ev_int) (sve_raiseN (ev_js (ej_lit (ej_fmt ev_int (ej_lit ej_nil)))))) fun _ => ?_
  exact tve_ret (EV.e (ev_v (i := 6) (d := house) rfl))
/-! _law_is_integer -/
noncomputable abbrev s_law_is_integer : Stmt := topS 25
noncomputable abbrev n_law_is_integer : List Str := ["x"]
theorem sc_law_is_integer : FnScope n_law_is_integer ["x"] (defScope s_law_is_integer) := ⟨rfl, rfl, rfl, by decide +kernel, rfl, by decide +kernel, by decide +kernel⟩
theorem ok_law_is_integer {fa : Addr} {fd : FuncData} (F : Fun K "_law_is_integer" "_law_is_integer" s_law_is_integer fa fd) (hm : mg "_law_is_integer" = some (.ref fa)) (hb : Binds K fd ["x"] []) (bl : Bi mg) (gx : Gx K mg az zv) (ti : Ti K cl mg) (tx : Tx K cl)  : Con P w K cl mg base 1 "_law_is_integer" (on1 (m_law_is_integer)) fa fd ["x"] := by
  refine fun_con (k := 0) F sc_law_is_integer rfl ar1 hm hb (fun cdv A outer s H E hr => ?_)
  have nd := sc_law_is_integer.nd
  refine ⟨_, (pss_cons (ps_ret (pe_and (pe_callB (isiK K) (by rfl) bl.isinstance (by decide +kernel) (pa_cons (pv 0) (pa_cons (pe_bltn (v := .ty "int") (by rfl) bl.int (by decide +kernel) rfl) pa_nil))) (pe_one (pe_not (pe_callB (isiK K) (by rfl) bl.isinstance (by decide +kernel) (pa_cons (pv 0) (pa_cons (pe_bltn (v := .ty "bool") (by rfl) bl.bool (by decide +kernel) rfl) pa_nil))))))) pss_never), ?_⟩
  exact all1 fun x_1 => (tv_ret (ev_and (ev_isi .int (ev_v (i := 0) (d := x_1) rfl)) (ev_not (ev_isi .bool (ev_v (i := 0) (d := x_1) rfl)))))
theorem okH_law_is_integer {gc fa : Addr} {fd : FuncData} (F : FunC K "_law_is_integer" "_law_is_integer" s_law_is_integer fa fd gc) (hm : mg "_law_is_integer" = some (.ref fa)) (hb : Binds K fd ["x"] []) (bl : Bi mg) : ConH P w K cl mg base 1 "_law_is_integer" (on1 (m_law_is_integer)) fa fd ["x"] := by
  refine fun_conH (k := 0) F sc_law_is_integer rfl ar1 hm hb (fun A outer s H E p hot hr => ?_)
  have nd := sc_law_is_integer.nd
  refine ⟨_, (pss_cons (ps_ret (pe_and (pe_callB (isiK K) (by rfl) bl.isinstance (by decide +kernel) (pa_cons (pv 0) (pa_cons (pe_bltn (v := .ty "int") (by rfl) bl.int (by decide +kernel) rfl) pa_nil))) (pe_one (pe_not (pe_callB (isiK K) (by rfl) bl.isinstance (by decide +kernel) (pa_cons (pv 0) (pa_cons (pe_bltn (v := .ty "bool") (by rfl) bl.bool (by decide +kernel) rfl) pa_nil))))))) pss_never), ?_⟩
  exact all1 fun x_1 => (tv_ret (ev_and (ev_isi .int (ev_v (i := 0) (d := x_1) rfl)) (ev_not (ev_isi .bool (ev_v (i := 0) (d := x_1) rfl)))))
/-! _law_told -/
noncomputable abbrev s_law_told : Stmt := topS 45
noncomputable abbrev n_law_told : List Str := ["text", "e"]
theorem sc_law_told : FnScope n_law_told ["text"] (defScope s_law_told) := ⟨rfl, rfl, rfl, by decide +kernel, rfl, by decide +kernel, by decide +kernel⟩
theorem ok_law_told {kb kn lv lvI : Nat} {f : List D → Rs D} {fI : List D → Option D} {c2 c4 : Addr} {fa : Addr} {fd : FuncData} (F : Fun K "_law_told" "_law_told" s_law_told fa fd) (hm : mg "_law_told" = some (.ref fa)) (hb : Binds K fd ["text"] []) (bli : mg "isinstance" = none) (blv : mg "ValueError" = none)
    (mB : mg "BadText" = some (.ref (cl.c kb))) (mU : mg "UnknownName" = some (.ref c2)) (mN : mg "NotAllowed" = some (.ref (cl.c kn))) (mE : mg "BeenError" = some (.ref c4)) (hx : PySem.W.exmOne K (.ref (cl.c kb)) (.ref (cl.c kb)) = some true) (hx2 : PySem.W.exmOne K (.ref (cl.c kn)) (.ref (cl.c kb)) = some false) (hx3 : PySem.W.exmOne K (.ref (cl.c kn)) (.ref (cl.c kn)) = some true)
    (k1 : PySem.W.kitOne K (.ref (cl.c kb)) (.ref c2) = some false) (k2 : PySem.W.kitOne K (.ref (cl.c kb)) (.ref (cl.c kn)) = some false) (k3 : PySem.W.kitOne K (.ref (cl.c kb)) (.ref c4) = some true) (k4 : PySem.W.kitOne K (.ref (cl.c kb)) (.type "ValueError") = some true) (k5 : PySem.W.kitOne K (.ref (cl.c kn)) (.ref c2) = some false) (k6 : PySem.W.kitOne K (.ref (cl.c kn)) (.ref c4) = some true)
    (EC : ExcC K (cl.c kb)) (ECN : ExcC K (cl.c kn)) (XC : XfC K (cl.c kb)) (hat : PySem.W.findIn K (.ref (cl.c kb)) "at" = some none) (hI : ∀ n : Int, fI [.int n] = some (.bl true))
    {f0 : Addr} {fd0 : FuncData} (CE : ConE P w K cl mg base lv "parse_house" f f0 fd0 ["text"]) {f1 : Addr} {fd1 : FuncData} (CI : ConH P w K cl mg base lvI "_law_is_integer" fI f1 fd1 ["x"]) :
    Con P w K cl mg base (lv + lvI + 1) "_law_told" (on1 (r_law_told kb kn f)) fa fd ["text"] := by
  refine fun_con (k := lv + lvI) F sc_law_told rfl ar1 hm hb (fun cdv A outer s H E hr => ?_)
  have nd := sc_law_told.nd
  refine ⟨_, pss_cons (ps_try_asL (i := 1) (n := "e") (tb := fun W => tRet (tTup (tCons (tUn (rU fun i => .int (-i)) (tC (.int 1))) (tCons (tCallS (spE K cl f) (WE W) (tCons (tVar 0) tNil)) tNil)))) (W0 := fun _ _ _ _ => False) (l := [(.ref (cl.c kb), tsTold K cl (cl.c kb) (.ref c2) (.ref (cl.c kn)) (.ref c4) (.ty "ValueError") 1 fI), (.ref (cl.c kn), tsPl K (cl.c kn) (.ref c2) (.ref c4) 1 (tUn (rU fun i => .int (-i)) (tC (.int 2))))]) rfl rfl nd rfl rfl takesN0
      (fun W pn xe tkW _ => pss_one (ps_ret (pe_tup (pa_cons (hs := rfl) (pe_un un_neg pe_int) (pa_cons (pe_callS CE.ok (hr.mono (by omega)) rfl CE.mg CE.kp CE.bd (L2N.passAt tkW) (pa_cons (pv 0) pa_nil) (by decide) (by rfl) (by rfl)) pa_nil)))))
      (.cons ⟨rfl, by decide, .inl mB⟩ (suite_told rfl (by first | exact Or.inl rfl | exact Or.inr rfl) (by decide) (by decide) rfl bli EC XC hat CI (hr.mono (by omega)) rfl (by decide) (fun _ _ _ => pe_glob (v := .ref c2) rfl mU rfl) (fun _ _ _ => pe_glob (v := .ref (cl.c kn)) rfl mN rfl) (fun _ _ _ => pe_glob (v := .ref c4) rfl mE rfl) (fun _ _ _ => pe_bltn (v := .ty "ValueError") (by rfl) blv (by decide +kernel) rfl))
        (.cons ⟨rfl, by decide, .inl mN⟩ (suite_pl rfl (by first | exact Or.inl rfl | exact Or.inr rfl) (by decide) (by decide) rfl bli ECN (fun _ _ _ => pe_glob (v := .ref c2) rfl mU rfl) (fun _ _ _ => pe_glob (v := .ref c4) rfl mE rfl) (fun _ _ => pe_un un_neg pe_int) rfl) .nil))) pss_nil, ?_⟩
  exact all1 fun text_1 => tv_told4 (i := 1) (Nat.le_of_ble_eq_true rfl) hx hx2 hx3 (fun _ h => h) (fun _ h => h) (fun _ h => h) (fun _ h => h) (fun _ h => h) (fun _ h => h) k1 k2 k3 k4 k5 k6 (fun σ H Q q => ⟨_, rfl, q⟩) hI (ev_un (fun G H x d z gh r h Q q => o_neg gh r h Q q) ev_int) (ea_cons (ev_v (i := 0) (d := text_1) rfl) ea_nil)
/-! _law_new_word -/
noncomputable abbrev s_law_new_word : Stmt := topS 43
noncomputable abbrev n_law_new_word : List Str := ["row", "words", "odd"]
theorem sc_law_new_word : FnScope n_law_new_word ["row", "words"] (defScope s_law_new_word) := ⟨rfl, rfl, rfl, by decide +kernel, rfl, by decide +kernel, by decide +kernel⟩
theorem ok_law_new_word {fa : Addr} {fd : FuncData} (F : Fun K "_law_new_word" "_law_new_word" s_law_new_word fa fd) (hm : mg "_law_new_word" = some (.ref fa)) (hb : Binds K fd ["row", "words"] []) (bl : Bi mg) (gx : Gx K mg az zv) (ti : Ti K cl mg) (tx : Tx K cl) {f0 : Addr} {fd0 : FuncData} (C_law_name : Con P w K cl mg base 2 "_law_name" (on2 (m_law_name)) f0 fd0 ["row", "k"]) {f1 : Addr} {fd1 : FuncData} (C_law_kept : Con P w K cl mg base 1 "_law_kept" (on0 (m_law_kept)) f1 fd1 []) : Con P w K cl mg base 3 "_law_new_word" (on2 (m_law_new_word)) fa fd ["row", "words"] := by
  refine fun_con (k := 2) F sc_law_new_word rfl ar2 hm hb (fun cdv A outer s H E hr => ?_)
  have nd := sc_law_new_word.nd
  refine ⟨_, (pss_cons (ps_set (i := 2) nd rfl (by first | exact Or.inl rfl | exact Or.inr rfl) (pe_lst (pa_cons pe_str (pa_cons pe_str (pa_cons pe_str (pa_cons pe_str (pa_cons pe_str (pa_cons pe_str (pa_cons pe_str (pa_cons pe_str (pa_cons pe_str (pa_cons pe_str pa_nil)))))))))))) (pss_cons (ps_if (pt_cmpR op_eq (pe_op op_mod (pe_callTy call_int1 (by rfl) bl.int (by decide +kernel) (pa_cons (pe_ix (ixK K) (pv 0) pe_int (fun _ _ => rfl)) pa_nil)) pe_int) pe_int (nomark _)) (pss_cons (ps_ret (pe_ix (ixK K) (pe_call0 C_law_kept.ok (hr.mono (by omega)) (by rfl) C_law_kept.mg C_law_kept.kp C_law_kept.bd .nil pass0) (pe_op op_mod (pe_callTy call_int1 (by rfl) bl.int (by decide +kernel) (pa_cons (pe_ix (ixK K) (pv 0) pe_int (fun _ _ => rfl)) pa_nil)) pe_int) (fun _ _ => rfl))) pss_never) pss_nil) (pss_cons (ps_if (PW.pt (pw_and (pt_cmpR op_eq (pe_op op_mod (pe_callTy call_int1 (by rfl) bl.int (by decide +kernel) (pa_cons (pe_ix (ixK K) (pv 0) pe_int (fun _ _ => rfl)) pa_nil)) pe_int) pe_int (nomark _)) (pw_and1 (truthK K (pv 1) (by intro _; rfl))))) (pss_cons (ps_ret (pe_ix (ixK K) (pv 1) (pe_op op_mod (pe_callTy call_int1 (by rfl) bl.int (by decide +kernel) (pa_cons (pe_ix (ixK K) (pv 0) pe_int (fun _ _ => rfl)) pa_nil)) (pe_callB (lenK K) (by rfl) bl.len (by decide +kernel) (pa_cons (pv 1) pa_nil))) (fun _ _ => rfl))) pss_never) pss_nil) (pss_cons (ps_if (pt_cmpR op_eq (pe_op op_mod (pe_callTy call_int1 (by rfl) bl.int (by decide +kernel) (pa_cons (pe_ix (ixK K) (pv 0) pe_int (fun _ _ => rfl)) pa_nil)) pe_int) pe_int (nomark _)) (pss_cons (ps_ret (pe_call C_law_name.ok (hr.mono (by omega)) (by rfl) C_law_name.mg C_law_name.kp C_law_name.bd .nil pass0 (pa_cons (pe_slice (slK K) (pv 0) (po_some pe_int) po_none) (pa_cons (pe_op op_mod (pe_callTy call_int1 (by rfl) bl.int (by decide +kernel) (pa_cons (pe_ix (ixK K) (pv 0) pe_int (fun _ _ => rfl)) pa_nil)) pe_int) pa_nil)))) pss_never) pss_nil) (pss_cons (ps_ret (pe_ix (ixK K) (pv 2) (pe_op op_mod (pe_callTy call_int1 (by rfl) bl.int (by decide +kernel) (pa_cons (pe_ix (ixK K) (pv 0) pe_int (fun _ _ => rfl)) pa_nil)) pe_int) (fun _ _ => rfl))) pss_never))))), ?_⟩
  exact all2 fun row_1 words_2 => (tv_cons (sv_asg (i := 2) ((evn_lst (ea_cons ev_str (ea_cons ev_str (ea_cons ev_str (ea_cons ev_str (ea_cons ev_str (ea_cons ev_str (ea_cons ev_str (ea_cons ev_str (ea_cons ev_str (ea_cons ev_str ea_nil)))))))))))).ev) (fun odd_3 => (tv_ifl (et_op o_eqF (ev_op o_mod (ev_cb o_int (ea_cons (ev_op o_ix (ev_v (i := 0) (d := row_1) rfl) ev_int) ea_nil)) ev_int) ev_int) (tv_ret (ev_op o_ix (ev_call ea_nil) (ev_op o_mod (ev_cb o_int (ea_cons (ev_op o_ix (ev_v (i := 0) (d := row_1) rfl) ev_int) ea_nil)) ev_int))) (tv_ifl (et_and (et_op o_eqF (ev_op o_mod (ev_cb o_int (ea_cons (ev_op o_ix (ev_v (i := 0) (d := row_1) rfl) ev_int) ea_nil)) ev_int) ev_int) (et_tru (ev_v (i := 1) (d := words_2) rfl))) (tv_ret (ev_op o_ix (ev_v (i := 1) (d := words_2) rfl) (ev_op o_mod (ev_cb o_int (ea_cons (ev_op o_ix (ev_v (i := 0) (d := row_1) rfl) ev_int) ea_nil)) (ev_cb o_len (ea_cons (ev_v (i := 1) (d := words_2) rfl) ea_nil))))) (tv_ifl (et_op o_eqF (ev_op o_mod (ev_cb o_int (ea_cons (ev_op o_ix (ev_v (i := 0) (d := row_1) rfl) ev_int) ea_nil)) ev_int) ev_int) (tv_ret (ev_call (ea_cons ((evn_sl (ev_v (i := 0) (d := row_1) rfl) (eo_so ev_int) eo_no)).ev (ea_cons (ev_op o_mod (ev_cb o_int (ea_cons (ev_op o_ix (ev_v (i := 0) (d := row_1) rfl) ev_int) ea_nil)) ev_int) ea_nil)))) (tv_ret (ev_op o_ix (ev_v (i := 2) (d := odd_3) rfl) (ev_op o_mod (ev_cb o_int (ea_cons (ev_op o_ix (ev_v (i := 0) (d := row_1) rfl) ev_int) ea_nil)) ev_int))))))))
/-! _law_changed -/
noncomputable abbrev s_law_changed : Stmt := topS 44
noncomputable abbrev n_law_changed : List Str := ["words", "row", "at"]
theorem sc_law_changed : FnScope n_law_changed ["words", "row"] (defScope s_law_changed) := ⟨rfl, rfl, rfl, by decide +kernel, rfl, by decide +kernel, by decide +kernel⟩
theorem ok_law_changed {fa : Addr} {fd : FuncData} (F : Fun K "_law_changed" "_law_changed" s_law_changed fa fd) (hm : mg "_law_changed" = some (.ref fa)) (hb : Binds K fd ["words", "row"] []) (bl : Bi mg) (gx : Gx K mg az zv) (ti : Ti K cl mg) (tx : Tx K cl) {f0 : Addr} {fd0 : FuncData} (C_law_new_word : Con P w K cl mg base 3 "_law_new_word" (on2 (m_law_new_word)) f0 fd0 ["row", "words"]) : Con P w K cl mg base 4 "_law_changed" (on2 (m_law_changed)) fa fd ["words", "row"] := by
  refine fun_con (k := 3) F sc_law_changed rfl ar2 hm hb (fun cdv A outer s H E hr => ?_)
  have nd := sc_law_changed.nd
  refine ⟨_, (pss_cons (ps_set (i := 2) nd rfl (by first | exact Or.inl rfl | exact Or.inr rfl) (pe_op op_mod (pe_callTy call_int1 (by rfl) bl.int (by decide +kernel) (pa_cons (pe_ix (ixK K) (pv 1) pe_int (fun _ _ => rfl)) pa_nil)) (pe_op op_addD (pe_callB (lenK K) (by rfl) bl.len (by decide +kernel) (pa_cons (pv 0) pa_nil)) pe_int))) (pss_cons (ps_if (pt_cmpR op_eq (pe_op op_mod (pe_callTy call_int1 (by rfl) bl.int (by decide +kernel) (pa_cons (pe_ix (ixK K) (pv 1) pe_int (fun _ _ => rfl)) pa_nil)) pe_int) pe_int (nomark _)) (pss_cons (ps_ret (pe_op op_cat (pe_op op_cat (pe_slice (slK K) (pv 0) po_none (po_some (pv 2))) (pe_lst (pa_cons (pe_call C_law_new_word.ok (hr.mono (by omega)) (by rfl) C_law_new_word.mg C_law_new_word.kp C_law_new_word.bd .nil pass0 (pa_cons (pe_slice (slK K) (pv 1) (po_some pe_int) po_none) (pa_cons (pv 0) pa_nil))) pa_nil))) (pe_slice (slK K) (pv 0) (po_some (pe_op op_addD (pv 2) pe_int)) po_none))) pss_never) pss_nil) (pss_cons (ps_if (pt_cmpR op_eq (pe_op op_mod (pe_callTy call_int1 (by rfl) bl.int (by decide +kernel) (pa_cons (pe_ix (ixK K) (pv 1) pe_int (fun _ _ => rfl)) pa_nil)) pe_int) pe_int (nomark _)) (pss_cons (ps_ret (pe_op op_cat (pe_slice (slK K) (pv 0) po_none (po_some (pv 2))) (pe_slice (slK K) (pv 0) (po_some (pe_op op_addD (pv 2) pe_int)) po_none))) pss_never) pss_nil) (pss_cons (ps_if (pt_cmpR op_eq (pe_op op_mod (pe_callTy call_int1 (by rfl) bl.int (by decide +kernel) (pa_cons (pe_ix (ixK K) (pv 1) pe_int (fun _ _ => rfl)) pa_nil)) pe_int) pe_int (nomark _)) (pss_cons (ps_ret (pe_op op_cat (pe_op op_cat (pe_slice (slK K) (pv 0) po_none (po_some (pv 2))) (pe_lst (pa_cons (pe_call C_law_new_word.ok (hr.mono (by omega)) (by rfl) C_law_new_word.mg C_law_new_word.kp C_law_new_word.bd .nil pass0 (pa_cons (pe_slice (slK K) (pv 1) (po_some pe_int) po_none) (pa_cons (pv 0) pa_nil))) pa_nil))) (pe_slice (slK K) (pv 0) (po_some (pv 2)) po_none))) pss_never) pss_nil) (pss_cons (ps_if (pt_cmpR op_eq (pe_op op_mod (pe_callTy call_int1 (by rfl) bl.int (by decide +kernel) (pa_cons (pe_ix (ixK K) (pv 1) pe_int (fun _ _ => rfl)) pa_nil)) pe_int) pe_int (nomark _)) (pss_cons (ps_ret (pe_op op_cat (pe_op op_cat (pe_slice (slK K) (pv 0) po_none (po_some (pv 2))) (pe_slice (slK K) (pv 0) (po_some (pv 2)) (po_some (pe_op op_addD (pv 2) pe_int)))) (pe_slice (slK K) (pv 0) (po_some (pv 2)) po_none))) pss_never) pss_nil) (pss_cons (ps_ret (pe_slice (slK K) (pv 0) po_none (po_some (pv 2)))) pss_never)))))), ?_⟩
  exact all2 fun words_1 row_2 => (tv_cons (sv_asg (i := 2) (ev_op o_mod (ev_cb o_int (ea_cons (ev_op o_ix (ev_v (i := 1) (d := row_2) rfl) ev_int) ea_nil)) (ev_op o_add (ev_cb o_len (ea_cons (ev_v (i := 0) (d := words_1) rfl) ea_nil)) ev_int))) (fun at_3 => (tv_ifl (et_op o_eqF (ev_op o_mod (ev_cb o_int (ea_cons (ev_op o_ix (ev_v (i := 1) (d := row_2) rfl) ev_int) ea_nil)) ev_int) ev_int) (tv_ret ((evn_op o_cat ((evn_op o_cat ((evn_sl (ev_v (i := 0) (d := words_1) rfl) eo_no (eo_so (ev_v (i := 2) (d := at_3) rfl)))).ev ((evn_lst (ea_cons (ev_call (ea_cons ((evn_sl (ev_v (i := 1) (d := row_2) rfl) (eo_so ev_int) eo_no)).ev (ea_cons (ev_v (i := 0) (d := words_1) rfl) ea_nil))) ea_nil))).ev)).ev ((evn_sl (ev_v (i := 0) (d := words_1) rfl) (eo_so (ev_op o_add (ev_v (i := 2) (d := at_3) rfl) ev_int)) eo_no)).ev)).ev) (tv_ifl (et_op o_eqF (ev_op o_mod (ev_cb o_int (ea_cons (ev_op o_ix (ev_v (i := 1) (d := row_2) rfl) ev_int) ea_nil)) ev_int) ev_int) (tv_ret ((evn_op o_cat ((evn_sl (ev_v (i := 0) (d := words_1) rfl) eo_no (eo_so (ev_v (i := 2) (d := at_3) rfl)))).ev ((evn_sl (ev_v (i := 0) (d := words_1) rfl) (eo_so (ev_op o_add (ev_v (i := 2) (d := at_3) rfl) ev_int)) eo_no)).ev)).ev) (tv_ifl (et_op o_eqF (ev_op o_mod (ev_cb o_int (ea_cons (ev_op o_ix (ev_v (i := 1) (d := row_2) rfl) ev_int) ea_nil)) ev_int) ev_int) (tv_ret ((evn_op o_cat ((evn_op o_cat ((evn_sl (ev_v (i := 0) (d := words_1) rfl) eo_no (eo_so (ev_v (i := 2) (d := at_3) rfl)))).ev ((evn_lst (ea_cons (ev_call (ea_cons ((evn_sl (ev_v (i := 1) (d := row_2) rfl) (eo_so ev_int) eo_no)).ev (ea_cons (ev_v (i := 0) (d := words_1) rfl) ea_nil))) ea_nil))).ev)).ev ((evn_sl (ev_v (i := 0) (d := words_1) rfl) (eo_so (ev_v (i := 2) (d := at_3) rfl)) eo_no)).ev)).ev) (tv_ifl (et_op o_eqF (ev_op o_mod (ev_cb o_int (ea_cons (ev_op o_ix (ev_v (i := 1) (d := row_2) rfl) ev_int) ea_nil)) ev_int) ev_int) (tv_ret ((evn_op o_cat ((evn_op o_cat ((evn_sl (ev_v (i := 0) (d := words_1) rfl) eo_no (eo_so (ev_v (i := 2) (d := at_3) rfl)))).ev ((evn_sl (ev_v (i := 0) (d := words_1) rfl) (eo_so (ev_v (i := 2) (d := at_3) rfl)) (eo_so (ev_op o_add (ev_v (i := 2) (d := at_3) rfl) ev_int)))).ev)).ev ((evn_sl (ev_v (i := 0) (d := words_1) rfl) (eo_so (ev_v (i := 2) (d := at_3) rfl)) eo_no)).ev)).ev) (tv_ret ((evn_sl (ev_v (i := 0) (d := words_1) rfl) eo_no (eo_so (ev_v (i := 2) (d := at_3) rfl)))).ev)))))))
/-! _law_spaced -/
noncomputable abbrev s_law_spaced : Stmt := topS 36
noncomputable abbrev n_law_spaced : List Str := ["words", "row", "text", "k"]
theorem sc_law_spaced : FnScope n_law_spaced ["words", "row"] (defScope s_law_spaced) := ⟨rfl, rfl, rfl, by decide +kernel, rfl, by decide +kernel, by decide +kernel⟩
theorem ok_law_spaced {fa : Addr} {fd : FuncData} (F : Fun K "_law_spaced" "_law_spaced" s_law_spaced fa fd) (hm : mg "_law_spaced" = some (.ref fa)) (hb : Binds K fd ["words", "row"] []) (bl : Bi mg) (gx : Gx K mg az zv) (ti : Ti K cl mg) (tx : Tx K cl)  : Con P w K cl mg base 1 "_law_spaced" (on2 (m_law_spaced)) fa fd ["words", "row"] := by
  refine fun_con (k := 0) F sc_law_spaced rfl ar2 hm hb (fun cdv A outer s H E hr => ?_)
  have nd := sc_law_spaced.nd
  refine ⟨_, (pss_cons (ps_set (i := 2) nd rfl (by first | exact Or.inl rfl | exact Or.inr rfl) (pe_op op_mulT pe_str (pe_op op_mod (pe_callTy call_int1 (by rfl) bl.int (by decide +kernel) (pa_cons (pe_ix (ixK K) (pv 1) pe_int (fun _ _ => rfl)) pa_nil)) pe_int))) (pss_cons (ps_for PassesOwn.never rfl (pi_range1 (by rfl) bl.range (pa_cons (pe_callB (lenK K) (by rfl) bl.len (by decide +kernel) (pa_cons (pv 0) pa_nil)) pa_nil)) (pg_name (i := 3) nd rfl (by first | exact Or.inl rfl | exact Or.inr rfl)) (pss_cons (ps_if (pt_cmpR op_gt (pv 3) pe_int (nomark _)) (pss_cons (ps_set (i := 2) nd rfl (by first | exact Or.inl rfl | exact Or.inr rfl) (pe_op op_addD (pv 2) (pe_op op_mulT pe_str (pe_op op_addD pe_int (pe_op op_mod (pe_callTy call_int1 (by rfl) bl.int (by decide +kernel) (pa_cons (pe_op op_fdivP (pe_ix (ixK K) (pv 1) (pe_op op_addD pe_int (pe_op op_mod (pv 3) pe_int)) (fun _ _ => rfl)) (pe_op op_addD pe_int (pv 3))) pa_nil)) pe_int))))) pss_nil) pss_nil) (pss_cons (ps_set (i := 2) nd rfl (by first | exact Or.inl rfl | exact Or.inr rfl) (pe_op op_addD (pv 2) (pe_ix (ixK K) (pv 0) (pv 3) (fun _ _ => rfl)))) pss_nil))) (pss_cons (ps_ret (pe_op op_addD (pv 2) (pe_op op_mulT pe_str (pe_op op_mod (pe_callTy call_int1 (by rfl) bl.int (by decide +kernel) (pa_cons (pe_ix (ixK K) (pv 1) pe_int (fun _ _ => rfl)) pa_nil)) pe_int)))) pss_never))), ?_⟩
  exact all2 fun words_1 row_2 => (tv_cons (sv_asg (i := 2) (ev_op o_mulT ev_str (ev_op o_mod (ev_cb o_int (ea_cons (ev_op o_ix (ev_v (i := 1) (d := row_2) rfl) ev_int) ea_nil)) ev_int))) (fun text_3 => (tv_cons (sv_for (f := some) (inv := (fun (b : D) => [.vl words_1, .vl row_2, .vl b, .jk])) text_3 (iv_rng1 (ev_cb o_len (ea_cons (ev_v (i := 0) (d := words_1) rfl) ea_nil))) (.same (.same (.same (.same .nil)))) gv_name (fun c_15 b_14 => (sv_cons (sv_if (post := (fun (b : D) => [.vl words_1, .vl row_2, .vl b, .vl c_15])) (et_op o_gt (ev_v (i := 3) (d := c_15) rfl) ev_int) (sv_cons (sv_asg (i := 2) (ev_op o_add (ev_v (i := 2) (d := b_14) rfl) (ev_op o_mulT ev_str (ev_op o_add ev_int (ev_op o_mod (ev_cb o_int (ea_cons (ev_op o_fdiv (ev_op o_ix (ev_v (i := 1) (d := row_2) rfl) (ev_op o_add ev_int (ev_op o_mod (ev_v (i := 3) (d := c_15) rfl) ev_int))) (ev_op o_add ev_int (ev_v (i := 3) (d := c_15) rfl))) ea_nil)) ev_int))))) (fun text_20 => (sv_nil text_20 (.same (.same (.same (.same .nil))))))) (sv_nil b_14 (.same (.same (.same (.same .nil)))))) (fun s_19 => (sv_cons (sv_asg (i := 2) (ev_op o_add (ev_v (i := 2) (d := s_19) rfl) (ev_op o_ix (ev_v (i := 0) (d := words_1) rfl) (ev_v (i := 3) (d := c_15) rfl)))) (fun text_41 => (sv_nil text_41 (.same (.same (.same (.drop .nil))))))))))) (fun s_47 => (tv_ret (ev_op o_add (ev_v (i := 2) (d := s_47) rfl) (ev_op o_mulT ev_str (ev_op o_mod (ev_cb o_int (ea_cons (ev_op o_ix (ev_v (i := 1) (d := row_2) rfl) ev_int) ea_nil)) ev_int))))))))
/-! _law_same -/
noncomputable abbrev s_law_same : Stmt := topS 37
noncomputable abbrev n_law_same : List Str := ["actual", "due", "k"]
theorem sc_law_same : FnScope n_law_same ["actual", "due"] (defScope s_law_same) := ⟨rfl, rfl, rfl, by decide +kernel, rfl, by decide +kernel, by decide +kernel⟩
theorem ok_law_same {fa : Addr} {fd : FuncData} (F : Fun K "_law_same" "_law_same" s_law_same fa fd) (hm : mg "_law_same" = some (.ref fa)) (hb : Binds K fd ["actual", "due"] []) (bl : Bi mg) (gx : Gx K mg az zv) (ti : Ti K cl mg) (tx : Tx K cl) {f0 : Addr} {fd0 : FuncData} (C_law_is_integer : Con P w K cl mg base 1 "_law_is_integer" (on1 (m_law_is_integer)) f0 fd0 ["x"]) : ∀ fuel : Nat, Con P w K cl mg base (2 + fuel) "_law_same" (on2 (m_law_same fuel)) fa fd ["actual", "due"]
  | 0 => ⟨con_none (fun ds d h => by
      have hl := ar2 ds d h
      match ds, hl, h with | [_, _], _, h => exact nomatch h), hm, F.kp, hb⟩
  | fuel + 1 => by
    have IH := ok_law_same F hm hb bl gx ti tx C_law_is_integer fuel
    refine fun_con (k := 2 + fuel) F sc_law_same rfl ar2 hm hb (fun cdv A outer s H E hr => ?_)
    have nd := sc_law_same.nd
    refine ⟨_, (pss_cons (ps_if (PW.pt (pw_or (pt_val (pe_callB (isiK K) (by rfl) bl.isinstance (by decide +kernel) (pa_cons (pv 1) (pa_cons (pe_bltn (v := .ty "list") (by rfl) bl.list (by decide +kernel) rfl) pa_nil)))) (pw_or1 (pt_val (pe_callB (isiK K) (by rfl) bl.isinstance (by decide +kernel) (pa_cons (pv 1) (pa_cons (pe_bltn (v := .ty "tuple") (by rfl) bl.tuple (by decide +kernel) rfl) pa_nil))))))) (pss_cons (ps_if (PW.pt (pw_or (pt_cmpR op_ne (pe_callB (isiK K) (by rfl) bl.isinstance (by decide +kernel) (pa_cons (pv 0) (pa_cons (pe_bltn (v := .ty "list") (by rfl) bl.list (by decide +kernel) rfl) pa_nil))) (pe_callB (isiK K) (by rfl) bl.isinstance (by decide +kernel) (pa_cons (pv 1) (pa_cons (pe_bltn (v := .ty "list") (by rfl) bl.list (by decide +kernel) rfl) pa_nil))) (nomark _)) (pw_or1 (pt_cmpR op_ne (pe_callB (isiK K) (by rfl) bl.isinstance (by decide +kernel) (pa_cons (pv 0) (pa_cons (pe_bltn (v := .ty "tuple") (by rfl) bl.tuple (by decide +kernel) rfl) pa_nil))) (pe_callB (isiK K) (by rfl) bl.isinstance (by decide +kernel) (pa_cons (pv 1) (pa_cons (pe_bltn (v := .ty "tuple") (by rfl) bl.tuple (by decide +kernel) rfl) pa_nil))) (nomark _))))) (pss_cons (ps_ret pe_bl) pss_never) pss_nil) (pss_cons (ps_if (pt_cmpR op_ne (pe_callB (lenK K) (by rfl) bl.len (by decide +kernel) (pa_cons (pv 0) pa_nil)) (pe_callB (lenK K) (by rfl) bl.len (by decide +kernel) (pa_cons (pv 1) pa_nil)) (nomark _)) (pss_cons (ps_ret pe_bl) pss_never) pss_nil) (pss_cons (ps_for PassesOwn.never rfl (pi_range1 (by rfl) bl.range (pa_cons (pe_callB (lenK K) (by rfl) bl.len (by decide +kernel) (pa_cons (pv 1) pa_nil)) pa_nil)) (pg_name (i := 2) nd rfl (by first | exact Or.inl rfl | exact Or.inr rfl)) (pss_cons (ps_if (pt_not (pt_val (pe_call IH.ok (hr.mono (by omega)) (by rfl) IH.mg IH.kp IH.bd .nil pass0 (pa_cons (pe_ix (ixK K) (pv 0) (pv 2) (fun _ _ => rfl)) (pa_cons (pe_ix (ixK K) (pv 1) (pv 2) (fun _ _ => rfl)) pa_nil))))) (pss_cons (ps_ret pe_bl) pss_never) pss_nil) pss_nil)) (pss_cons (ps_ret pe_bl) pss_never)))) pss_nil) (pss_cons (ps_if (pt_val (pe_callB (isiK K) (by rfl) bl.isinstance (by decide +kernel) (pa_cons (pv 1) (pa_cons (pe_bltn (v := .ty "bool") (by rfl) bl.bool (by decide +kernel) rfl) pa_nil)))) (pss_cons (ps_ret (pe_and (pe_callB (isiK K) (by rfl) bl.isinstance (by decide +kernel) (pa_cons (pv 0) (pa_cons (pe_bltn (v := .ty "bool") (by rfl) bl.bool (by decide +kernel) rfl) pa_nil))) (pe_one (pe_cmpR (eqK K hr) (pv 0) (pv 1) (nomark _))))) pss_never) pss_nil) (pss_cons (ps_if (pt_val (pe_callB (isiK K) (by rfl) bl.isinstance (by decide +kernel) (pa_cons (pv 1) (pa_cons (pe_bltn (v := .ty "int") (by rfl) bl.int (by decide +kernel) rfl) pa_nil)))) (pss_cons (ps_ret (pe_and (pe_call C_law_is_integer.ok (hr.mono (by omega)) (by rfl) C_law_is_integer.mg C_law_is_integer.kp C_law_is_integer.bd .nil pass0 (pa_cons (pv 0) pa_nil)) (pe_one (pe_cmpR (eqK K hr) (pv 0) (pv 1) (nomark _))))) pss_never) pss_nil) (pss_cons (ps_ret (pe_and (pe_callB (isiK K) (by rfl) bl.isinstance (by decide +kernel) (pa_cons (pv 0) (pa_cons (pe_bltn (v := .ty "str") (by rfl) bl.str (by decide +kernel) rfl) pa_nil))) (pe_one (pe_cmpR (eqK K hr) (pv 0) (pv 1) (nomark _))))) pss_never)))), ?_⟩
    exact all2 fun actual_1 due_2 => (tv_ifl (et_or (et_B (ev_isi .list (ev_v (i := 1) (d := due_2) rfl))) (et_B (ev_isi .tuple (ev_v (i := 1) (d := due_2) rfl)))) (tv_ifl (et_or (et_op o_neF (ev_isi .list (ev_v (i := 0) (d := actual_1) rfl)) (ev_isi .list (ev_v (i := 1) (d := due_2) rfl))) (et_op o_neF (ev_isi .tuple (ev_v (i := 0) (d := actual_1) rfl)) (ev_isi .tuple (ev_v (i := 1) (d := due_2) rfl)))) (tv_ret ev_bl) (tv_ifl (et_op o_neF (ev_cb o_len (ea_cons (ev_v (i := 0) (d := actual_1) rfl) ea_nil)) (ev_cb o_len (ea_cons (ev_v (i := 1) (d := due_2) rfl) ea_nil))) (tv_ret ev_bl) (tv_flow (out := fun c => nomatch c) (fv_for (γ := Empty) (f := some) (inv := (fun (b : Unit) => [.vl actual_1, .vl due_2, .jk])) () (iv_rng1 (ev_cb o_len (ea_cons (ev_v (i := 1) (d := due_2) rfl) ea_nil))) (.same (.same (.same .nil))) gv_name (fun c_21 b_20 => (fv_ifl (post0 := fun _ => []) (et_not (et_B (ev_call (ea_cons (ev_op o_ix (ev_v (i := 0) (d := actual_1) rfl) (ev_v (i := 2) (d := c_21) rfl)) (ea_cons (ev_op o_ix (ev_v (i := 1) (d := due_2) rfl) (ev_v (i := 2) (d := c_21) rfl)) ea_nil))))) (fv_ret ev_bl) (fv_nil () (.same (.same (.drop .nil))))))) (fun s_33 => (tv_ret ev_bl))))) (tv_ifl (et_B (ev_isi .bool (ev_v (i := 1) (d := due_2) rfl))) (tv_ret (ev_and (ev_isi .bool (ev_v (i := 0) (d := actual_1) rfl)) (ev_op o_eq (ev_v (i := 0) (d := actual_1) rfl) (ev_v (i := 1) (d := due_2) rfl)))) (tv_ifl (et_B (ev_isi .int (ev_v (i := 1) (d := due_2) rfl))) (tv_ret (ev_and (ev_call (ea_cons (ev_v (i := 0) (d := actual_1) rfl) ea_nil)) (ev_op o_eq (ev_v (i := 0) (d := actual_1) rfl) (ev_v (i := 1) (d := due_2) rfl)))) (tv_ret (ev_and (ev_isi .str (ev_v (i := 0) (d := actual_1) rfl)) (ev_op o_eq (ev_v (i := 0) (d := actual_1) rfl) (ev_v (i := 1) (d := due_2) rfl)))))))
/-! _law_same_house -/
noncomputable abbrev s_law_same_house : Stmt := topS 35
noncomputable abbrev n_law_same_house : List Str := ["actual", "house"]
theorem sc_law_same_house : FnScope n_law_same_house ["actual", "house"] (defScope s_law_same_house) := ⟨rfl, rfl, rfl, by decide +kernel, rfl, by decide +kernel, by decide +kernel⟩
theorem ok_law_same_house {fa : Addr} {fd : FuncData} (F : Fun K "_law_same_house" "_law_same_house" s_law_same_house fa fd) (hm : mg "_law_same_house" = some (.ref fa)) (hb : Binds K fd ["actual", "house"] []) (bl : Bi mg) (gx : Gx K mg az zv) (ti : Ti K cl mg) (tx : Tx K cl) {f0 : Addr} {fd0 : FuncData} (C_law_same : Con P w K cl mg base 14 "_law_same" (on2 (m_law_same 12)) f0 fd0 ["actual", "due"]) : Con P w K cl mg base 15 "_law_same_house" (on2 (m_law_same_house)) fa fd ["actual", "house"] := by
  refine fun_con (k := 14) F sc_law_same_house rfl ar2 hm hb (fun cdv A outer s H E hr => ?_)
  have nd := sc_law_same_house.nd
  refine ⟨_, (pss_cons (ps_if (pt_not (pt_val (pe_callB (isiK K) (by rfl) bl.isinstance (by decide +kernel) (pa_cons (pv 0) (pa_cons (pe_glob (v := .ref (cl.c 1)) rfl ti.House_mg rfl) pa_nil))))) (pss_cons (ps_ret pe_bl) pss_never) pss_nil) (pss_cons (ps_ret (pe_and (pe_call C_law_same.ok (hr.mono (by omega)) (by rfl) C_law_same.mg C_law_same.kp C_law_same.bd .nil pass0 (pa_cons (fldK K (pv 0) rfl) (pa_cons (pe_ix (ixK K) (pv 1) pe_int (fun _ _ => rfl)) pa_nil))) (pe_and (pe_call C_law_same.ok (hr.mono (by omega)) (by rfl) C_law_same.mg C_law_same.kp C_law_same.bd .nil pass0 (pa_cons (fldK K (pv 0) rfl) (pa_cons (pe_ix (ixK K) (pv 1) pe_int (fun _ _ => rfl)) pa_nil))) (pe_one (pe_call C_law_same.ok (hr.mono (by omega)) (by rfl) C_law_same.mg C_law_same.kp C_law_same.bd .nil pass0 (pa_cons (fldK K (pv 0) rfl) (pa_cons (pe_ix (ixK K) (pv 1) pe_int (fun _ _ => rfl)) pa_nil))))))) pss_never)), ?_⟩
  exact all2 fun actual_1 house_2 => (tv_ifl (et_not (et_B (ev_isO tx.House ti.House (ev_v (i := 0) (d := actual_1) rfl)))) (tv_ret ev_bl) (tv_ret (ev_and (ev_call (ea_cons (ev_fld tx.House (.head _) (ev_v (i := 0) (d := actual_1) rfl)) (ea_cons (ev_op o_ix (ev_v (i := 1) (d := house_2) rfl) ev_int) ea_nil))) (ev_and (ev_call (ea_cons (ev_fld tx.House (.tail _ (.head _)) (ev_v (i := 0) (d := actual_1) rfl)) (ea_cons (ev_op o_ix (ev_v (i := 1) (d := house_2) rfl) ev_int) ea_nil))) (ev_call (ea_cons (ev_fld tx.House (.tail _ (.tail _ (.head _))) (ev_v (i := 0) (d := actual_1) rfl)) (ea_cons (ev_op o_ix (ev_v (i := 1) (d := house_2) rfl) ev_int) ea_nil)))))))
/-! law -/
noncomputable abbrev s_law : Stmt := topS 46
noncomputable abbrev n_law : List Str := ["script", "row", "house", "words", "k", "wrong", "told", "found", "one"]
theorem sc_law : FnScope n_law ["script"] (defScope s_law) := ⟨rfl, rfl, rfl, by decide +kernel, rfl, by decide +kernel, by decide +kernel⟩
theorem ok_law {fa : Addr} {fd : FuncData} (F : Fun K "law" "law" s_law fa fd) (hm : mg "law" = some (.ref fa)) (hb : Binds K fd ["script"] []) (bl : Bi mg) (gx : Gx K mg az zv) (ti : Ti K cl mg) (tx : Tx K cl) {f0 : Addr} {fd0 : FuncData} (C_law_row : Con P w K cl mg base 1 "_law_row" (on3 (m_law_row)) f0 fd0 ["script", "place", "many"]) {f1 : Addr} {fd1 : FuncData} (C_law_house : Con P w K cl mg base 4 "_law_house" (on3 (m_law_house)) f1 fd1 ["script", "place", "cap"]) {f2 : Addr} {fd2 : FuncData} (C_law_text_words : Con P w K cl mg base 1 "_law_text_words" (on1 (m_law_text_words)) f2 fd2 ["house"]) {f3 : Addr} {fd3 : FuncData} (C_law_read : Con P w K cl mg base 5 "_law_read" (on1 (m_law_read)) f3 fd3 ["words"]) {f4 : Addr} {fd4 : FuncData} (C_law_told : Con P w K cl mg base 10 "_law_told" (on1 (m_law_told)) f4 fd4 ["text"]) {f5 : Addr} {fd5 : FuncData} (C_law_changed : Con P w K cl mg base 4 "_law_changed" (on2 (m_law_changed)) f5 fd5 ["words", "row"]) {f6 : Addr} {fd6 : FuncData} (C_law_spaced : Con P w K cl mg base 1 "_law_spaced" (on2 (m_law_spaced)) f6 fd6 ["words", "row"]) {f7 : Addr} {fd7 : FuncData} (C_law_same_house : Con P w K cl mg base 15 "_law_same_house" (on2 (m_law_same_house)) f7 fd7 ["actual", "house"]) {f8 : Addr} {fd8 : FuncData} (C_law_count_ways : Con P w K cl mg base 2 "_law_count_ways" (on2 (m_law_count_ways)) f8 fd8 ["counts", "heard"]) : Con P w K cl mg base 16 "law" (on1 (m_law)) fa fd ["script"] := by
  refine fun_con (k := 15) F sc_law rfl ar1 hm hb (fun cdv A outer s H E hr => ?_)
  have nd := sc_law.nd
  refine ⟨_, (pss_cons (ps_set (i := 1) nd rfl (by first | exact Or.inl rfl | exact Or.inr rfl) (pe_call C_law_row.ok (hr.mono (by omega)) (by rfl) C_law_row.mg C_law_row.kp C_law_row.bd .nil pass0 (pa_cons (pv 0) (pa_cons pe_int (pa_cons pe_int pa_nil))))) (pss_cons (ps_set (i := 2) nd rfl (by first | exact Or.inl rfl | exact Or.inr rfl) (pe_call C_law_house.ok (hr.mono (by omega)) (by rfl) C_law_house.mg C_law_house.kp C_law_house.bd .nil pass0 (pa_cons (pv 0) (pa_cons pe_int (pa_cons (pe_ix (ixK K) (pe_lst (pa_cons pe_int (pa_cons pe_int (pa_cons (pe_op op_pow pe_int pe_int) (pa_cons pe_int pa_nil))))) (pe_op op_mod (pe_callTy call_int1 (by rfl) bl.int (by decide +kernel) (pa_cons (pe_ix (ixK K) (pv 1) pe_int (fun _ _ => rfl)) pa_nil)) pe_int) (fun _ _ => rfl)) pa_nil))))) (pss_cons (ps_set (i := 3) nd rfl (by first | exact Or.inl rfl | exact Or.inr rfl) (pe_call C_law_text_words.ok (hr.mono (by omega)) (by rfl) C_law_text_words.mg C_law_text_words.kp C_law_text_words.bd .nil pass0 (pa_cons (pv 2) pa_nil))) (pss_cons (ps_for PassesOwn.never rfl (pi_range1 (by rfl) bl.range (pa_cons (pe_op op_mod (pe_callTy call_int1 (by rfl) bl.int (by decide +kernel) (pa_cons (pe_ix (ixK K) (pv 1) pe_int (fun _ _ => rfl)) pa_nil)) pe_int) pa_nil)) (pg_name (i := 4) nd rfl (by first | exact Or.inl rfl | exact Or.inr rfl)) (pss_cons (ps_set (i := 3) nd rfl (by first | exact Or.inl rfl | exact Or.inr rfl) (pe_call C_law_changed.ok (hr.mono (by omega)) (by rfl) C_law_changed.mg C_law_changed.kp C_law_changed.bd .nil pass0 (pa_cons (pv 3) (pa_cons (pe_call C_law_row.ok (hr.mono (by omega)) (by rfl) C_law_row.mg C_law_row.kp C_law_row.bd .nil pass0 (pa_cons (pv 0) (pa_cons (pe_op op_addD pe_int (pv 4)) (pa_cons pe_int pa_nil)))) pa_nil)))) pss_nil)) (pss_cons (ps_asg (pe_call C_law_read.ok (hr.mono (by omega)) (by rfl) C_law_read.mg C_law_read.kp C_law_read.bd .nil pass0 (pa_cons (pv 3) pa_nil)) (tupGK K rfl (pgs_cons (pg_name (i := 5) nd rfl (by first | exact Or.inl rfl | exact Or.inr rfl)) (pgs_cons (pg_name (i := 2) nd rfl (by first | exact Or.inl rfl | exact Or.inr rfl)) pgs_nil)))) (pss_cons (ps_if (PW.pt (pw_and (pt_cmpR op_eq (pv 5) (pe_un un_neg pe_int) (nomark _)) (pw_and1 (pt_cmpR op_gt (pe_call C_law_count_ways.ok (hr.mono (by omega)) (by rfl) C_law_count_ways.mg C_law_count_ways.kp C_law_count_ways.bd .nil pass0 (pa_cons (pe_lc (own := [("one", 8)]) (g := (gName 8)) (tt := tYes) rfl nd (listIK K (pe_ix (ixK K) (pv 2) pe_int (fun _ _ => rfl))) (blkOk_by (N := n_law) (sc := defScope s_law) (by decide +kernel)) (fun _ _ _ _ _ => pg_name (i := 8) nd rfl (by first | exact Or.inl rfl | exact Or.inr rfl)) (fun _ _ _ _ _ => pts_nil) (fun _ _ _ _ _ => (pe_callB (lenK K) (by rfl) bl.len (by decide +kernel) (pa_cons (pv 8) pa_nil)))) (pa_cons (pe_ix (ixK K) (pv 2) pe_int (fun _ _ => rfl)) pa_nil))) pe_int (nomark _))))) (pss_cons (ps_set (i := 5) nd rfl (by first | exact Or.inl rfl | exact Or.inr rfl) (pe_un un_neg pe_int)) pss_nil) pss_nil) (pss_cons (ps_asg (pe_call C_law_told.ok (hr.mono (by omega)) (by rfl) C_law_told.mg C_law_told.kp C_law_told.bd .nil pass0 (pa_cons (pe_call C_law_spaced.ok (hr.mono (by omega)) (by rfl) C_law_spaced.mg C_law_spaced.kp C_law_spaced.bd .nil pass0 (pa_cons (pv 3) (pa_cons (pv 1) pa_nil))) pa_nil)) (tupGK K rfl (pgs_cons (pg_name (i := 6) nd rfl (by first | exact Or.inl rfl | exact Or.inr rfl)) (pgs_cons (pg_name (i := 7) nd rfl (by first | exact Or.inl rfl | exact Or.inr rfl)) pgs_nil)))) (pss_cons (ps_if (pt_cmpR op_ne (pv 6) (pv 5) (nomark _)) (pss_cons (ps_ret pe_bl) pss_never) pss_nil) (pss_cons (ps_ret (pe_or (pe_cmpR op_ne (pv 5) (pe_un un_neg pe_int) (nomark _)) (pe_one (pe_call C_law_same_house.ok (hr.mono (by omega)) (by rfl) C_law_same_house.mg C_law_same_house.kp C_law_same_house.bd .nil pass0 (pa_cons (pv 7) (pa_cons (pv 2) pa_nil)))))) pss_never))))))))), ?_⟩
  exact all1 fun script_1 => (tv_cons (sv_asg (i := 1) (ev_call (ea_cons (ev_v (i := 0) (d := script_1) rfl) (ea_cons ev_int (ea_cons ev_int ea_nil))))) (fun row_2 => (tv_cons (sv_asg (i := 2) (ev_call (ea_cons (ev_v (i := 0) (d := script_1) rfl) (ea_cons ev_int (ea_cons (ev_op o_ix ((evn_lst (ea_cons ev_int (ea_cons ev_int (ea_cons (ev_op o_pow ev_int ev_int) (ea_cons ev_int ea_nil)))))).ev (ev_op o_mod (ev_cb o_int (ea_cons (ev_op o_ix (ev_v (i := 1) (d := row_2) rfl) ev_int) ea_nil)) ev_int)) ea_nil))))) (fun house_9 => (tv_cons (sv_asg (i := 3) (ev_call (ea_cons (ev_v (i := 2) (d := house_9) rfl) ea_nil))) (fun words_34 => (tv_cons (sv_for (f := some) (inv := (fun (b : D) => [.vl script_1, .vl row_2, .vl house_9, .vl b, .jk, .jk, .jk, .jk, .jk])) words_34 (iv_rng1 (ev_op o_mod (ev_cb o_int (ea_cons (ev_op o_ix (ev_v (i := 1) (d := row_2) rfl) ev_int) ea_nil)) ev_int)) (.same (.same (.same (.same (.same (.same (.same (.same (.same .nil))))))))) gv_name (fun c_44 b_43 => (sv_cons (sv_asg (i := 3) (ev_call (ea_cons (ev_v (i := 3) (d := b_43) rfl) (ea_cons (ev_call (ea_cons (ev_v (i := 0) (d := script_1) rfl) (ea_cons (ev_op o_add ev_int (ev_v (i := 4) (d := c_44) rfl)) (ea_cons ev_int ea_nil)))) ea_nil)))) (fun words_45 => (sv_nil words_45 (.same (.same (.same (.same (.drop (.same (.same (.same (.same .nil)))))))))))))) (fun s_59 => (tv_cons (sv_asgG (ev_call (ea_cons (ev_v (i := 3) (d := s_59) rfl) ea_nil)) gv_tup2) (fun c_60 => (tv_cons (sv_if (post := (fun (b : D) => [.vl script_1, .vl row_2, .vl c_60.2, .vl s_59, .jk, .vl b, .jk, .jk, .jk])) (et_and (et_op o_eqF (ev_v (i := 5) (d := c_60.1) rfl) (ev_un (fun G H x d z gh r h Q q => o_neg gh r h Q q) ev_int)) (et_op o_gt (ev_call (ea_cons ((evn_lc (f := some) (iv_list (ev_op o_ix (ev_v (i := 2) (d := c_60.2) rfl) ev_int)) gv_name (gw_name (by decide)) (fun c_67 => et_yes) (fun c_67 => (ev_cb o_len (ea_cons (ev_v (i := 8) (d := c_67) rfl) ea_nil))))).ev (ea_cons (ev_op o_ix (ev_v (i := 2) (d := c_60.2) rfl) ev_int) ea_nil))) ev_int)) (sv_cons (sv_asg (i := 5) (ev_un (fun G H x d z gh r h Q q => o_neg gh r h Q q) ev_int)) (fun wrong_83 => (sv_nil wrong_83 (.same (.same (.same (.same (.same (.same (.same (.same (.same .nil)))))))))))) (sv_nil c_60.1 (.same (.same (.same (.same (.same (.same (.same (.same (.same .nil))))))))))) (fun s_82 => (tv_cons (sv_asgG (ev_call (ea_cons (ev_call (ea_cons (ev_v (i := 3) (d := s_59) rfl) (ea_cons (ev_v (i := 1) (d := row_2) rfl) ea_nil))) ea_nil)) gv_tup2) (fun c_84 => (tv_ifl (et_op o_neF (ev_v (i := 6) (d := c_84.1) rfl) (ev_v (i := 5) (d := s_82) rfl)) (tv_ret ev_bl) (tv_ret (ev_or (ev_op o_neF (ev_v (i := 5) (d := s_82) rfl) (ev_un (fun G H x d z gh r h Q q => o_neg gh r h Q q) ev_int)) (ev_call (ea_cons (ev_v (i := 7) (d := c_84.2) rfl) (ea_cons (ev_v (i := 2) (d := c_60.2) rfl) ea_nil))))))))))))))))))))
end
noncomputable abbrev s_BadText_init : Stmt := inClass (topS 2) 0
noncomputable abbrev P0 : Program := PySem.Challenge.rw_otherhow_k04_house_refused_at_its_word.prog
theorem bad_ok {w : World} {K : PySem.W.Frag} {mg : Str → Option Value} {base : Heap} (hz : HkL.fnZ K ("BadText", some "__init__") = HkL.mkZ "__init__" "BadText.__init__" (defArgs s_BadText_init) (defBody s_BadText_init) (defScope s_BadText_init)) (hb : badB K "BadText" "BadText.__init__" P0.main.file = true) (hmg : mg "BadText" = some (.ref (He.ga K "BadText"))) (hsu : mg "super" = none) :
    ∃ fdI, BadC P0 w K mg base (He.ga K "BadText") (He.fAd K ("BadText", some "__init__")) fdI :=
  badC_of (st := s_BadText_init) hz hb hmg hsu (NdefX.nscope_by (by decide +kernel)) rfl (by decide) (by decide) (fun _ _ _ _ _ us hl => match us, hl with | [_, _], _ => rfl) ⟨_, rfl, rfl⟩ (by decide +kernel) (by decide +kernel) rfl (fun _ _ _ _ => rfl) (fun _ _ _ _ => rfl) (fun _ _ _ _ => rfl) (fun _ _ _ _ => rfl) (fun _ _ _ _ => ⟨_, rfl⟩)
theorem all_facts {w : World} {K : PySem.W.Frag} {h : Heap} {mg : Str → Option Value} {fa : Addr} (X : K.In h) (G : h.Ns mainGlobals mg) (hfa : mg "law" = some (.ref fa)) (c : He.SaysX Hd.fa Hd.fn [] Hd.tf Hd.ex w h K) (cz : HkL.fnZ K ("BadText", some "__init__") = Hd.zv) (main : ∀ ns : List Int, ns.length ≤ 63 → m_law (.rol (ns.map D.int)) = some (.bl true)) :
    LamX.LawAtS PySem.Challenge.rw_otherhow_k04_house_refused_at_its_word w K CX0 16 63 "script" mg fa h := by
  have cd : He.SaysD Hd.fa Hd.fn K := c.t.d
  have ce : Hd.ex K = true := c.more
  unfold Hd.ex at ce
  have x0 := (He.ba ce).1
  have y0 := (He.ba ce).2
  have x1 := (He.ba y0).1
  have y1 := (He.ba y0).2
  have x2 := (He.ba y1).1
  have y2 := (He.ba y1).2
  have x3 := (He.ba y2).1
  have y3 := (He.ba y2).2
  have x4 := (He.ba y3).1
  have y4 := (He.ba y3).2
  have x5 := (He.ba y4).1
  have y5 := (He.ba y4).2
  have x6 := (He.ba y5).1
  have y6 := (He.ba y5).2
  have x7 := (He.ba y6).1
  have y7 := (He.ba y6).2
  have x8 := (He.ba y7).1
  have y8 := (He.ba y7).2
  have x9 := (He.ba y8).1
  have y9 := (He.ba y8).2
  have x10 := (He.ba y9).1
  have y10 := (He.ba y9).2
  have x11 := (He.ba y10).1
  have y11 := (He.ba y10).2
  have x12 := (He.ba y11).1
  have y12 := (He.ba y11).2
  have x13 := (He.ba y12).1
  have y13 := (He.ba y12).2
  have x14 := (He.ba y13).1
  have y14 := (He.ba y13).2
  have x15 := (He.ba y14).1
  have y15 := (He.ba y14).2
  have e := hfa.symm.trans (He.glo_ok X G (cd.fact 38 (f := .glo "law") rfl))
  cases e
  obtain ⟨fd0, F0⟩ := HdL.fun_at cd 0 (st := s_law_row) rfl
  have b0 := F0.binds (ps := ["script", "place", "many"]) fun _ _ _ _ _ _ us hl => match us, hl with | [_, _, _], _ => rfl
  obtain ⟨fd1, F1⟩ := HdL.fun_at cd 1 (st := s_law_size) rfl
  have b1 := F1.binds (ps := ["bounds"]) fun _ _ _ _ _ _ us hl => match us, hl with | [_], _ => rfl
  obtain ⟨fd2, F2⟩ := HdL.fun_at cd 2 (st := s_law_count_ways) rfl
  have b2 := F2.binds (ps := ["counts", "heard"]) fun _ _ _ _ _ _ us hl => match us, hl with | [_, _], _ => rfl
  obtain ⟨fd3, F3⟩ := HdL.fun_at cd 3 (st := s_law_shape) rfl
  have b3 := F3.binds (ps := ["script", "place", "cap"]) fun _ _ _ _ _ _ us hl => match us, hl with | [_, _, _], _ => rfl
  obtain ⟨fd4, F4⟩ := HdL.fun_at cd 4 (st := s_law_kept) rfl
  have b4 := F4.binds (ps := []) fun _ _ _ _ _ _ us hl => match us, hl with | [], _ => rfl
  obtain ⟨fd5, F5⟩ := HdL.fun_at cd 5 (st := s_law_name) rfl
  have b5 := F5.binds (ps := ["row", "k"]) fun _ _ _ _ _ _ us hl => match us, hl with | [_, _], _ => rfl
  obtain ⟨fd6, F6⟩ := HdL.fun_at cd 6 (st := s_law_names) rfl
  have b6 := F6.binds (ps := ["script", "place", "many"]) fun _ _ _ _ _ _ us hl => match us, hl with | [_, _, _], _ => rfl
  obtain ⟨fd7, F7⟩ := HdL.fun_at cd 7 (st := s_law_house) rfl
  have b7 := F7.binds (ps := ["script", "place", "cap"]) fun _ _ _ _ _ _ us hl => match us, hl with | [_, _, _], _ => rfl
  obtain ⟨fd8, F8⟩ := HdL.fun_at cd 8 (st := s_law_text_words) rfl
  have b8 := F8.binds (ps := ["house"]) fun _ _ _ _ _ _ us hl => match us, hl with | [_], _ => rfl
  obtain ⟨fd9, F9⟩ := HdL.fun_at cd 9 (st := s_law_is_name) rfl
  have b9 := F9.binds (ps := ["word"]) fun _ _ _ _ _ _ us hl => match us, hl with | [_], _ => rfl
  obtain ⟨fd10, F10⟩ := HdL.fun_at cd 10 (st := s_law_read_names) rfl
  have b10 := F10.binds (ps := ["words", "at", "most"]) fun _ _ _ _ _ _ us hl => match us, hl with | [_, _, _], _ => rfl
  obtain ⟨fd11, F11⟩ := HdL.fun_at cd 11 (st := s_law_read_heard) rfl
  have b11 := F11.binds (ps := ["words", "at", "names"]) fun _ _ _ _ _ _ us hl => match us, hl with | [_, _, _], _ => rfl
  obtain ⟨fd12, F12⟩ := HdL.fun_at cd 12 (st := s_law_read_variable) rfl
  have b12 := F12.binds (ps := ["words", "at", "names"]) fun _ _ _ _ _ _ us hl => match us, hl with | [_, _, _], _ => rfl
  obtain ⟨fd13, F13⟩ := HdL.fun_at cd 13 (st := s_law_read) rfl
  have b13 := F13.binds (ps := ["words"]) fun _ _ _ _ _ _ us hl => match us, hl with | [_], _ => rfl
  obtain ⟨fd14, F14⟩ := HdL.fun_at cd 14 (st := s_Reader) rfl
  have b14 := F14.binds (ps := ["self", "text"]) fun _ _ _ _ _ _ us hl => match us, hl with | [_, _], _ => rfl
  obtain ⟨fd15, F15⟩ := HdL.fun_at cd 15 (st := s_Reader_ended) rfl
  have b15 := F15.binds (ps := ["self"]) fun _ _ _ _ _ _ us hl => match us, hl with | [_], _ => rfl
  obtain ⟨fd16, F16⟩ := HdL.fun_at cd 16 (st := s_Reader_coming) rfl
  have b16 := F16.binds (ps := ["self"]) fun _ _ _ _ _ _ us hl => match us, hl with | [_], _ => rfl
  obtain ⟨fd17, F17⟩ := HdL.fun_atC cd 17 (st := s_Reader_take) rfl
  have b17 := F17.fn.binds (ps := ["self", "allowed"]) fun _ _ _ _ _ _ us hl => match us, hl with | [_, _], _ => rfl
  obtain ⟨fd18, F18⟩ := HdL.fun_atC cd 18 (st := s_Reader_finish) rfl
  have b18 := F18.fn.binds (ps := ["self"]) fun _ _ _ _ _ _ us hl => match us, hl with | [_], _ => rfl
  obtain ⟨fd19, F19⟩ := HdL.fun_at cd 19 (st := s_House) rfl
  have b19 := F19.binds (ps := ["self", "names", "words", "heard"]) fun _ _ _ _ _ _ us hl => match us, hl with | [_, _, _, _], _ => rfl
  obtain ⟨fd20, F20⟩ := HdL.fun_at cd 20 (st := s_size) rfl
  have b20 := F20.binds (ps := ["bounds"]) fun _ _ _ _ _ _ us hl => match us, hl with | [_], _ => rfl
  obtain ⟨fd21, F21⟩ := HdL.fun_at cd 21 (st := s_heard_bounds) rfl
  have b21 := F21.binds (ps := ["house", "variable"]) fun _ _ _ _ _ _ us hl => match us, hl with | [_, _], _ => rfl
  obtain ⟨fd22, F22⟩ := HdL.fun_at cd 22 (st := s_answer_bounds) rfl
  have b22 := F22.binds (ps := ["house"]) fun _ _ _ _ _ _ us hl => match us, hl with | [_], _ => rfl
  obtain ⟨fd23, F23⟩ := HdL.fun_at cd 23 (st := s_way_count) rfl
  have b23 := F23.binds (ps := ["house"]) fun _ _ _ _ _ _ us hl => match us, hl with | [_], _ => rfl
  obtain ⟨fd24, F24⟩ := HdL.fun_at cd 24 (st := s_words_after) rfl
  have b24 := F24.binds (ps := ["many"]) fun _ _ _ _ _ _ us hl => match us, hl with | [_], _ => rfl
  obtain ⟨fd25, F25⟩ := HdL.fun_atC cd 25 (st := s_is_name) rfl
  have b25 := F25.fn.binds (ps := ["word"]) fun _ _ _ _ _ _ us hl => match us, hl with | [_], _ => rfl
  obtain ⟨fd26, F26⟩ := HdL.fun_atC cd 26 (st := s_Reader_take_name) rfl
  have b26 := F26.fn.binds (ps := ["self", "used"]) fun _ _ _ _ _ _ us hl => match us, hl with | [_, _], _ => rfl
  obtain ⟨fd27, F27⟩ := HdL.fun_atC cd 27 (st := s_read_words) rfl
  have b27 := F27.fn.binds (ps := ["reader"]) fun _ _ _ _ _ _ us hl => match us, hl with | [_], _ => rfl
  obtain ⟨fd28, F28⟩ := HdL.fun_atC cd 28 (st := s_Reader_take_index) rfl
  have b28 := F28.fn.binds (ps := ["self", "allowed"]) fun _ _ _ _ _ _ us hl => match us, hl with | [_, _], _ => rfl
  obtain ⟨fd29, F29⟩ := HdL.fun_atC cd 29 (st := s_read_heard) rfl
  have b29 := F29.fn.binds (ps := ["reader", "earlier"]) fun _ _ _ _ _ _ us hl => match us, hl with | [_, _], _ => rfl
  obtain ⟨fd30, F30⟩ := HdL.fun_atC cd 30 (st := s_parse_house) rfl
  have b30 := F30.fn.binds (ps := ["text"]) fun _ _ _ _ _ _ us hl => match us, hl with | [_], _ => rfl
  obtain ⟨fd31, F31⟩ := HdL.fun_atC cd 31 (st := s_law_is_integer) rfl
  have b31 := F31.fn.binds (ps := ["x"]) fun _ _ _ _ _ _ us hl => match us, hl with | [_], _ => rfl
  obtain ⟨fd32, F32⟩ := HdL.fun_at cd 32 (st := s_law_told) rfl
  have b32 := F32.binds (ps := ["text"]) fun _ _ _ _ _ _ us hl => match us, hl with | [_], _ => rfl
  obtain ⟨fd33, F33⟩ := HdL.fun_at cd 33 (st := s_law_new_word) rfl
  have b33 := F33.binds (ps := ["row", "words"]) fun _ _ _ _ _ _ us hl => match us, hl with | [_, _], _ => rfl
  obtain ⟨fd34, F34⟩ := HdL.fun_at cd 34 (st := s_law_changed) rfl
  have b34 := F34.binds (ps := ["words", "row"]) fun _ _ _ _ _ _ us hl => match us, hl with | [_, _], _ => rfl
  obtain ⟨fd35, F35⟩ := HdL.fun_at cd 35 (st := s_law_spaced) rfl
  have b35 := F35.binds (ps := ["words", "row"]) fun _ _ _ _ _ _ us hl => match us, hl with | [_, _], _ => rfl
  obtain ⟨fd36, F36⟩ := HdL.fun_at cd 36 (st := s_law_same) rfl
  have b36 := F36.binds (ps := ["actual", "due"]) fun _ _ _ _ _ _ us hl => match us, hl with | [_, _], _ => rfl
  obtain ⟨fd37, F37⟩ := HdL.fun_at cd 37 (st := s_law_same_house) rfl
  have b37 := F37.binds (ps := ["actual", "house"]) fun _ _ _ _ _ _ us hl => match us, hl with | [_, _], _ => rfl
  obtain ⟨oc, od, kV, doc, pm, an, cdv, ct, osl, F38⟩ := HdL.fun_last cd 38 (st := s_law) rfl
  have b38 := F38.binds (ps := ["script"]) fun _ _ _ _ _ _ us hl => match us, hl with | [_], _ => rfl
  have bl : Bi mg := ⟨He.free_ok X G (cd.fact 48 (f := .free "ValueError") rfl), He.free_ok X G (cd.fact 49 (f := .free "all") rfl), He.free_ok X G (cd.fact 50 (f := .free "bool") rfl), He.free_ok X G (cd.fact 51 (f := .free "int") rfl), He.free_ok X G (cd.fact 52 (f := .free "isinstance") rfl), He.free_ok X G (cd.fact 53 (f := .free "len") rfl), He.free_ok X G (cd.fact 54 (f := .free "list") rfl), He.free_ok X G (cd.fact 55 (f := .free "max") rfl), He.free_ok X G (cd.fact 56 (f := .free "range") rfl), He.free_ok X G (cd.fact 57 (f := .free "str") rfl), He.free_ok X G (cd.fact 58 (f := .free "super") rfl), He.free_ok X G (cd.fact 59 (f := .free "tuple") rfl)⟩
  let cl : Cl := ⟨fun n => match n with | 0 => He.ga K "Reader" | 1 => He.ga K "House" | 2 => He.ga K "BadText" | 3 => He.ga K "NotAllowed" | _ => 0, [(He.cT K ("is_name", none)).2], fun _ => (.Pass ⟨0, 0, 0, 0⟩, "", "")⟩
  obtain ⟨tz0, gz0⟩ := He.str_ok X G (cd.fact 60 (f := .str "LETTERS" "abcdefghijklmnopqrstuvwxyz") rfl)
  obtain ⟨tz1, gz1⟩ := He.str_ok X G (cd.fact 61 (f := .str "DIGITS" "0123456789") rfl)
  obtain ⟨tz3, gz3⟩ := He.int_ok X G (cd.fact 63 (f := .int "MOST_VARIABLES" (5)) rfl)
  obtain ⟨tz4, gz4⟩ := He.int_ok X G (cd.fact 64 (f := .int "MOST_WAYS" (512)) rfl)
  let az : Nat → Addr := fun n => match n with | 2 => He.ga K "NOT_NAMES" | _ => 0
  let zv : Nat → Value := fun n => match n with | 0 => .str "abcdefghijklmnopqrstuvwxyz" tz0 | 1 => .str "0123456789" tz1 | 3 => .int (5) tz3 | 4 => .int (512) tz4 | _ => .none
  have gx : Gx K mg az zv := ⟨⟨gz0, ⟨_, rfl⟩⟩, ⟨gz1, ⟨_, rfl⟩⟩, HdL.gt_at (He.glo_ok X G (cd.fact 62 (f := .glo "NOT_NAMES") rfl)) rfl x0 rfl, ⟨gz3, ⟨_, rfl⟩⟩, ⟨gz4, ⟨_, rfl⟩⟩⟩
  have tx0 : ClsF K (cl.c 0) ["words", "at"] := ⟨He.cls_ok (cd.fact 40 (f := .cls "Reader") rfl), by
      intro f hf
      simp only [List.mem_cons, List.not_mem_nil, or_false] at hf
      rcases hf with rfl | rfl
      · exact He.noat_ok (cd.fact 41 (f := .noat "Reader" "words") rfl)
      · exact He.noat_ok (cd.fact 42 (f := .noat "Reader" "at") rfl)⟩
  have tx1 : ClsF K (cl.c 1) ["names", "words", "heard"] := ⟨He.cls_ok (cd.fact 44 (f := .cls "House") rfl), by
      intro f hf
      simp only [List.mem_cons, List.not_mem_nil, or_false] at hf
      rcases hf with rfl | rfl | rfl
      · exact He.noat_ok (cd.fact 45 (f := .noat "House" "names") rfl)
      · exact He.noat_ok (cd.fact 46 (f := .noat "House" "words") rfl)
      · exact He.noat_ok (cd.fact 47 (f := .noat "House" "heard") rfl)⟩
  have tx : Tx K cl := ⟨tx0, tx1⟩
  have ti : Ti K cl mg := ⟨HdL.isi_at x1, (He.glo_ok X G (cd.fact 43 (f := .glo "House") rfl))⟩
  refine lawAt_mk (fd := PySem.W.fnOf "law" "law" (defArgs s_law) (defBody s_law) (defScope s_law) .none kV doc pm an cdv ct) cl (Hd.tf.map (He.cT K)) rfl (HdL.tabs_at X c.hd c.empty) (HdL.outs_at c.out) (fun s v => .of_eq rfl) (fun base _ _ htb => ?_)
  have T25 : GxR.TabB base mg (He.cT K ("is_name", none)).1 (He.cT K ("is_name", none)).2 := htb (He.cT K ("is_name", none)) (List.mem_map.mpr ⟨("is_name", none), by unfold Hd.tf; simp, rfl⟩)
  have P25 : (He.cT K ("is_name", none)).2 ∈ cl.t := by show _ ∈ [(He.cT K ("is_name", none)).2]; simp
  obtain ⟨fdB, bad⟩ := bad_ok (w := w) (base := base) cz x2 (He.glo_ok X G (cd.fact 67 (f := .glo "BadText") rfl)) bl.super
  have xpl : PlC K mg "NotAllowed" (He.ga K "NotAllowed") := by obtain ⟨e1, e2, e3, e4⟩ := He.exc_ok (cd.fact 69 (f := .exc "NotAllowed") rfl); exact ⟨e1, e2, e3, e4, (He.glo_ok X G (cd.fact 65 (f := .glo "NotAllowed") rfl))⟩
  have xhx2 := of_decide_eq_true x12
  have xhx3 := of_decide_eq_true x13
  have xk5 := of_decide_eq_true x14
  have xk6 := of_decide_eq_true x15
  have xECN := excX_ok x11
  have xhx := of_decide_eq_true x5
  have xk1 := of_decide_eq_true x7
  have xk2 := of_decide_eq_true x8
  have xk3 := of_decide_eq_true x9
  have xk4 := of_decide_eq_true x10
  have xEC := excX_ok x4
  have xXC := xfX_ok x3
  have xat := He.eqO_ok x6
  have C0 := ok_law_row (P := P0) (w := w) (cl := cl) (base := base) (az := az) (zv := zv) F0 (He.glo_ok X G (cd.fact 0 (f := .glo "_law_row") rfl)) b0 bl gx ti tx 
  have C1 := ok_law_size (P := P0) (w := w) (cl := cl) (base := base) (az := az) (zv := zv) F1 (He.glo_ok X G (cd.fact 1 (f := .glo "_law_size") rfl)) b1 bl gx ti tx 
  have C2 := ok_law_count_ways (P := P0) (w := w) (cl := cl) (base := base) (az := az) (zv := zv) F2 (He.glo_ok X G (cd.fact 2 (f := .glo "_law_count_ways") rfl)) b2 bl gx ti tx C1
  have C3 := ok_law_shape (P := P0) (w := w) (cl := cl) (base := base) (az := az) (zv := zv) F3 (He.glo_ok X G (cd.fact 3 (f := .glo "_law_shape") rfl)) b3 bl gx ti tx C0 C2
  have C4 := ok_law_kept (P := P0) (w := w) (cl := cl) (base := base) (az := az) (zv := zv) F4 (He.glo_ok X G (cd.fact 4 (f := .glo "_law_kept") rfl)) b4 bl gx ti tx 
  have C5 := ok_law_name (P := P0) (w := w) (cl := cl) (base := base) (az := az) (zv := zv) F5 (He.glo_ok X G (cd.fact 5 (f := .glo "_law_name") rfl)) b5 bl gx ti tx C4
  have C6 := ok_law_names (P := P0) (w := w) (cl := cl) (base := base) (az := az) (zv := zv) F6 (He.glo_ok X G (cd.fact 6 (f := .glo "_law_names") rfl)) b6 bl gx ti tx C0 C5
  have C7 := ok_law_house (P := P0) (w := w) (cl := cl) (base := base) (az := az) (zv := zv) F7 (He.glo_ok X G (cd.fact 7 (f := .glo "_law_house") rfl)) b7 bl gx ti tx C3 C6 C0
  have C8 := ok_law_text_words (P := P0) (w := w) (cl := cl) (base := base) (az := az) (zv := zv) F8 (He.glo_ok X G (cd.fact 8 (f := .glo "_law_text_words") rfl)) b8 bl gx ti tx 
  have C9 := ok_law_is_name (P := P0) (w := w) (cl := cl) (base := base) (az := az) (zv := zv) F9 (He.glo_ok X G (cd.fact 9 (f := .glo "_law_is_name") rfl)) b9 bl gx ti tx C4
  have C10 := ok_law_read_names (P := P0) (w := w) (cl := cl) (base := base) (az := az) (zv := zv) F10 (He.glo_ok X G (cd.fact 10 (f := .glo "_law_read_names") rfl)) b10 bl gx ti tx C9
  have C11 := ok_law_read_heard (P := P0) (w := w) (cl := cl) (base := base) (az := az) (zv := zv) F11 (He.glo_ok X G (cd.fact 11 (f := .glo "_law_read_heard") rfl)) b11 bl gx ti tx 
  have C12 := ok_law_read_variable (P := P0) (w := w) (cl := cl) (base := base) F12 (He.glo_ok X G (cd.fact 12 (f := .glo "_law_read_variable") rfl)) b12 bl.len C10 C11 C9
  have C13 := ok_law_read (P := P0) (w := w) (cl := cl) (base := base) F13 (He.glo_ok X G (cd.fact 13 (f := .glo "_law_read") rfl)) b13 bl.len bl.range C12
  have C14 := ok_Reader (P := P0) (w := w) (cl := cl) (base := base) (az := az) (zv := zv) F14 (He.mkr_ok (cd.fact 14 (f := .mkr "Reader") rfl)) (He.glo_ok X G (cd.fact 39 (f := .glo "Reader") rfl)) b14 bl gx tx 
  have C15 := ok_Reader_ended (P := P0) (w := w) (cl := cl) (base := base) (az := az) (zv := zv) F15 (He.meth_ok (cd.fact 15 (f := .meth "Reader" "ended") rfl)) b15 bl gx tx 
  have C16 := ok_Reader_coming (P := P0) (w := w) (cl := cl) (base := base) (az := az) (zv := zv) F16 (He.meth_ok (cd.fact 16 (f := .meth "Reader" "coming") rfl)) b16 bl gx tx C15
  have E17 := ok_Reader_take (P := P0) (w := w) (cl := cl) (base := base) (kb := 2) F17 (He.meth_ok (cd.fact 17 (f := .meth "Reader" "take") rfl)) b17 tx.Reader bad C16
  have E18 := ok_Reader_finish (P := P0) (w := w) (cl := cl) (base := base) (kb := 2) F18 (He.meth_ok (cd.fact 18 (f := .meth "Reader" "finish") rfl)) b18 tx.Reader bad C15
  have C19 := ok_House (P := P0) (w := w) (cl := cl) (base := base) (az := az) (zv := zv) F19 (He.mkr_ok (cd.fact 19 (f := .mkr "House") rfl)) (He.glo_ok X G (cd.fact 43 (f := .glo "House") rfl)) b19 bl gx tx 
  have C20 := ok_size (P := P0) (w := w) (cl := cl) (base := base) (az := az) (zv := zv) F20 (He.glo_ok X G (cd.fact 20 (f := .glo "size") rfl)) b20 bl gx ti tx 
  have C21 := ok_heard_bounds (P := P0) (w := w) (cl := cl) (base := base) (az := az) (zv := zv) F21 (He.glo_ok X G (cd.fact 21 (f := .glo "heard_bounds") rfl)) b21 bl gx ti tx 
  have C22 := ok_answer_bounds (P := P0) (w := w) (cl := cl) (base := base) (az := az) (zv := zv) F22 (He.glo_ok X G (cd.fact 22 (f := .glo "answer_bounds") rfl)) b22 bl gx ti tx C20 C21
  have C23 := ok_way_count (P := P0) (w := w) (cl := cl) (base := base) (az := az) (zv := zv) F23 (He.glo_ok X G (cd.fact 23 (f := .glo "way_count") rfl)) b23 bl gx ti tx C20 C22
  have C24 := ok_words_after (P := P0) (w := w) (cl := cl) (base := base) (az := az) (zv := zv) F24 (He.glo_ok X G (cd.fact 24 (f := .glo "words_after") rfl)) b24 bl gx ti tx 
  have C25 := ok_is_name (P := P0) (w := w) (cl := cl) (base := base) (az := az) (zv := zv) F25 (He.glo_ok X G (cd.fact 25 (f := .glo "is_name") rfl)) b25 bl T25 P25 gx ti tx 
  have E26 := ok_Reader_take_name (P := P0) (w := w) (cl := cl) (base := base) (kb := 2) F26 (He.meth_ok (cd.fact 26 (f := .meth "Reader" "take_name") rfl)) b26 tx.Reader bad C16 C25
  have E27 := ok_read_words (P := P0) (w := w) (cl := cl) (base := base) F27 (He.glo_ok X G (cd.fact 27 (f := .glo "read_words") rfl)) b27 tx.Reader E26 C16 C25
  have E28 := ok_Reader_take_index (P := P0) (w := w) (cl := cl) (base := base) F28 (He.meth_ok (cd.fact 28 (f := .meth "Reader" "take_index") rfl)) b28 tx.Reader E17
  have E29 := ok_read_heard (P := P0) (w := w) (cl := cl) (base := base) F29 (He.glo_ok X G (cd.fact 29 (f := .glo "read_heard") rfl)) b29 tx.Reader E17 E28 C16
  have E30 := ok_parse_house (P := P0) (w := w) (cl := cl) (base := base) (kn := 3) F30 (He.glo_ok X G (cd.fact 30 (f := .glo "parse_house") rfl)) b30 bl.len bl.list gx tx.Reader xpl C14 C19 C24 C23 E17 E26 E27 E29 E18
  have H31 := okH_law_is_integer (P := P0) (w := w) (cl := cl) (base := base) F31 (He.glo_ok X G (cd.fact 31 (f := .glo "_law_is_integer") rfl)) b31 bl
  have C31 := ok_law_is_integer (P := P0) (w := w) (cl := cl) (base := base) (az := az) (zv := zv) F31.fn (He.glo_ok X G (cd.fact 31 (f := .glo "_law_is_integer") rfl)) b31 bl gx ti tx 
  have C32 := ok_law_told (P := P0) (w := w) (cl := cl) (base := base) (kb := 2) (kn := 3) F32 (He.glo_ok X G (cd.fact 32 (f := .glo "_law_told") rfl)) b32 bl.isinstance bl.ValueError (He.glo_ok X G (cd.fact 67 (f := .glo "BadText") rfl)) (He.glo_ok X G (cd.fact 68 (f := .glo "UnknownName") rfl)) (He.glo_ok X G (cd.fact 65 (f := .glo "NotAllowed") rfl)) (He.glo_ok X G (cd.fact 66 (f := .glo "BeenError") rfl)) xhx xhx2 xhx3 xk1 xk2 xk3 xk4 xk5 xk6 xEC xECN xXC xat (fun n => rfl) E30 H31
  have C33 := ok_law_new_word (P := P0) (w := w) (cl := cl) (base := base) (az := az) (zv := zv) F33 (He.glo_ok X G (cd.fact 33 (f := .glo "_law_new_word") rfl)) b33 bl gx ti tx C5 C4
  have C34 := ok_law_changed (P := P0) (w := w) (cl := cl) (base := base) (az := az) (zv := zv) F34 (He.glo_ok X G (cd.fact 34 (f := .glo "_law_changed") rfl)) b34 bl gx ti tx C33
  have C35 := ok_law_spaced (P := P0) (w := w) (cl := cl) (base := base) (az := az) (zv := zv) F35 (He.glo_ok X G (cd.fact 35 (f := .glo "_law_spaced") rfl)) b35 bl gx ti tx 
  have C36 := ok_law_same (P := P0) (w := w) (cl := cl) (base := base) (az := az) (zv := zv) F36 (He.glo_ok X G (cd.fact 36 (f := .glo "_law_same") rfl)) b36 bl gx ti tx C31 12
  have C37 := ok_law_same_house (P := P0) (w := w) (cl := cl) (base := base) (az := az) (zv := zv) F37 (He.glo_ok X G (cd.fact 37 (f := .glo "_law_same_house") rfl)) b37 bl gx ti tx C36
  have C38 := ok_law (P := P0) (w := w) (cl := cl) (base := base) (az := az) (zv := zv) F38 (He.glo_ok X G (cd.fact 38 (f := .glo "law") rfl)) b38 bl gx ti tx C0 C7 C8 C13 C32 C34 C35 C37 C2
  exact law_ok C38.ok main
end Oh
namespace Oh
open PySem L2

/-! ### a mirror ends well -/
noncomputable def Ok {α : Type} (m : Option α) (Q : α → Prop) : Prop := ∃ r, m = some r ∧ Q r
section
variable {α β γ : Type}
theorem ok_some {a : α} {Q : α → Prop} (h : Q a) : Ok (some a) Q := ⟨a, rfl, h⟩
theorem ok_bind {m : Option α} {k : α → Option β} {P : α → Prop} {Q : β → Prop} (h : Ok m P) (hk : ∀ a, P a → Ok (k a) Q) : Ok (m.bind k) Q := by
  obtain ⟨a, e, p⟩ := h
  obtain ⟨b, e2, q⟩ := hk a p
  exact ⟨b, by rw [e]; exact e2, q⟩
theorem ok_mono {m : Option α} {P Q : α → Prop} (h : Ok m P) (hk : ∀ a, P a → Q a) : Ok m Q := by
  obtain ⟨a, e, p⟩ := h
  exact ⟨a, e, hk a p⟩
theorem ok_ite {c : Prop} [Decidable c] {m n : Option α} {Q : α → Prop} (h1 : c → Ok m Q) (h2 : ¬ c → Ok n Q) : Ok (if c then m else n) Q := by
  by_cases h : c
  · rw [if_pos h]; exact h1 h
  · rw [if_neg h]; exact h2 h
/-- loops -/
theorem forS_ok {k : D → β → Option β} {Q : β → Prop} (P : Nat → β → Prop) {xs : List D} {b : β} (h0 : P 0 b) (hs : ∀ i x b, xs[i]? = some x → P i b → Ok (k x b) (P (i + 1))) (hd : ∀ b, P xs.length b → Q b) : Ok (forS k xs b) Q := by
  have key : ∀ (ys : List D) (i : Nat) (b : β), ys = xs.drop i → i ≤ xs.length → P i b → Ok (forS k ys b) (P xs.length) := by
    intro ys
    induction ys with
    | nil =>
      intro i b e hi p
      have : xs.length ≤ i := by
        have := congrArg List.length e
        rw [List.length_drop] at this
        simp at this; omega
      have : i = xs.length := by omega
      subst this
      exact ok_some p
    | cons y ys ih =>
      intro i b e hi p
      have hl : i < xs.length := by
        have := congrArg List.length e
        rw [List.length_drop] at this
        simp at this; omega
      have e2 := List.drop_eq_getElem_cons hl
      rw [← e] at e2
      injection e2 with e3 e4
      refine ok_bind (hs i y b (by rw [List.getElem?_eq_getElem hl, e3]) p) fun b2 p2 => ?_
      exact ih (i + 1) b2 e4 hl p2
  exact ok_mono (key xs 0 b rfl (Nat.zero_le _) h0) hd
theorem rngD_len (lo : Int) (n : Nat) : (rngD lo n).length = n := by unfold rngD; rw [List.length_map, List.length_range]
theorem rngD_get {lo : Int} {n i : Nat} {x : D} (h : (rngD lo n)[i]? = some x) : i < n ∧ x = .int (lo + (i : Nat)) := by
  have hi : i < n := by rw [← rngD_len lo n]; exact (List.getElem?_eq_some_iff.mp h).1
  refine ⟨hi, ?_⟩
  unfold rngD at h
  rw [List.getElem?_map, List.getElem?_range hi] at h
  exact (Option.some.inj h).symm
theorem forS_rng {k : D → β → Option β} {Q : β → Prop} (P : Nat → β → Prop) {lo : Int} {n : Nat} {b : β} (h0 : P 0 b) (hs : ∀ i b, i < n → P i b → Ok (k (.int (lo + (i : Nat))) b) (P (i + 1))) (hd : ∀ b, P n b → Q b) : Ok (forS k (rngD lo n) b) Q := by
  refine forS_ok P h0 (fun i x b hx p => ?_) (fun b p => hd b (by rw [rngD_len] at p; exact p))
  obtain ⟨hi, rfl⟩ := rngD_get hx
  exact hs i b hi p
end
/-! ### values of the operations -/
theorem mul_l {a b : Int} (h : -(2 ^ 64) < a ∧ a < 2 ^ 64) : dMul (.int a) (.int b) = some (.int (a * b)) := by
  simp only [dMul]
  rw [if_pos (Or.inl (Or.inl h))]
theorem mul_r {a b : Int} (h : -(2 ^ 64) < b ∧ b < 2 ^ 64) : dMul (.int a) (.int b) = some (.int (a * b)) := by
  simp only [dMul]
  rw [if_pos (Or.inl (Or.inr h))]
theorem fdiv_w {a b : Int} {n : Nat} (h : 0 < b) (hb : b.natAbs < 2 ^ n) (h0 : 0 < n) (h9 : n ≤ 9000) : dFdiv (.int a) (.int b) = some (.int (a / b)) := by
  simp only [dFdiv]
  have e := wide_div (i := a) h hb h0 h9
  rw [if_pos (show 0 < b ∧ (b.natAbs.log2 < 9000 ∨ a.natAbs.log2 ≤ b.natAbs.log2 + 4400) from ⟨e.1, .inl e.2⟩)]
theorem fdiv_s {a b : Int} (h : 0 < b) (hb : b < 2 ^ 64) : dFdiv (.int a) (.int b) = some (.int (a / b)) := fdiv_w (n := 64) h (by omega) (by decide) (by decide)
theorem mod_p {a b : Int} (h : 0 < b) : dMod (.int a) (.int b) = some (.int (a % b)) := by
  simp only [dMod]
  rw [if_pos h]
theorem pow_s {a b : Int} (h : 0 ≤ b ∧ b ≤ 1000000 ∧ a.natAbs < 2 ^ 64) : dPow (.int a) (.int b) = some (.int (a ^ b.toNat)) := by
  simp only [dPow]
  rw [if_pos h]
theorem app_s {xs : List D} {x : D} (h : xs.length < 100000) : dApp (.lst xs) x = some (.lst (xs ++ [x])) := by
  simp only [dApp]
  rw [if_pos h]
theorem few_s {k : List D → D} {xs : List D} (h : xs.length ≤ 100000) : few k xs = some (k xs) := by
  unfold few
  rw [if_pos h]
theorem rng1_s {n : Int} (h0 : -(2 ^ 62) ≤ n) (h : n < 2 ^ 62) : dRng1 (.int n) = some (rngD 0 n.toNat) := by
  simp only [dRng1]
  rw [if_pos ⟨h0, h⟩]
theorem rng1_n {n : Nat} (h : (n : Int) < 2 ^ 62) : dRng1 (.int (n : Int)) = some (rngD 0 n) := rng1_s (by omega) h
theorem set_s {xs : List D} {i : Nat} {x : D} (h : i < xs.length) : dSet (.lst xs) (.int (i : Int)) x = some (.lst (xs.set i x)) := by
  simp only [dSet]
  rw [Evl.ixN_nat h]; rfl
theorem atI_s {α : Type} {xs : List α} {i : Nat} {x : α} (h : xs[i]? = some x) : atI xs (i : Int) = some x := atI_nat h
/-- lists of ints as data -/
noncomputable abbrev dis (xs : List Int) : List D := xs.map D.int
theorem dis_get {xs : List Int} {i : Nat} {x : Int} (h : xs[i]? = some x) : (dis xs)[i]? = some (.int x) := by
  show (xs.map D.int)[i]? = _
  rw [List.getElem?_map, h]; rfl
theorem dis_app (xs : List Int) (x : Int) : dis xs ++ [D.int x] = dis (xs ++ [x]) := by simp
theorem dis_len (xs : List Int) : (dis xs).length = xs.length := List.length_map _
end Oh
namespace Oh
open PySem L2
theorem forS_foldl {α σ β : Type} {k : D → β → Option β} (enc : α → D) (e : σ → β) (g : σ → α → σ) (I : σ → Prop) {xs : List α} {s : σ} (h0 : I s) (hs : ∀ s x, x ∈ xs → I s → k (enc x) (e s) = some (e (g s x)) ∧ I (g s x)) :
    forS k (xs.map enc) (e s) = some (e (xs.foldl g s)) ∧ I (xs.foldl g s) := by
  induction xs generalizing s with
  | nil => exact ⟨rfl, h0⟩
  | cons x xs ih =>
    obtain ⟨h1, h2⟩ := hs s x (List.mem_cons_self) h0
    obtain ⟨h3, h4⟩ := ih h2 (fun s y hy => hs s y (List.mem_cons_of_mem _ hy))
    refine ⟨?_, h4⟩
    show (k (enc x) (e s)).bind (forS k (xs.map enc)) = _
    rw [h1]
    exact h3
/-- numbers from 0 on as data -/
noncomputable abbrev dn (n : Nat) : D := .int (n : Int)
noncomputable abbrev dns (xs : List Nat) : List D := xs.map dn
theorem dns_get {xs : List Nat} {i : Nat} {x : Nat} (h : xs[i]? = some x) : (dns xs)[i]? = some (dn x) := by
  show (xs.map dn)[i]? = _
  rw [List.getElem?_map, h]; rfl
theorem dns_len (xs : List Nat) : (dns xs).length = xs.length := List.length_map _
/-- data that the comparing def takes, so deep at most -/
noncomputable def plain : Nat → D → Prop
  | _, .int _ => True
  | _, .bl _ => True
  | _, .str x => PySem.PyData.canLay0 (.str x) = true
  | n + 1, .lst xs => xs.length < 2 ^ 62 ∧ ∀ x ∈ xs, plain n x
  | n + 1, .tup xs => xs.length < 2 ^ 62 ∧ ∀ x ∈ xs, plain n x
  | _, _ => False
end Oh
namespace Oh
open PySem L2
theorem asL_l {xs : List D} : asL (.lst xs) = some xs := rfl
theorem asL_r {xs : List D} : asL (.rol xs) = some xs := rfl
theorem asT_t {xs : List D} : asT (.tup xs) = some xs := rfl
theorem asB_b {b : Bool} : asB (.bl b) = some b := rfl
theorem int_i {a : Int} : dInt (.int a) = some (.int a) := rfl
theorem len_l {xs : List D} : dLen (.lst xs) = some (.int xs.length) := rfl
theorem len_r {xs : List D} : dLen (.rol xs) = some (.int xs.length) := rfl
theorem len_t {xs : List D} : dLen (.tup xs) = some (.int xs.length) := rfl
theorem list_l {xs : List D} : dList (.lst xs) = some (.lst xs) := rfl
theorem un2_t {a b : D} : dUn2 (.tup [a, b]) = some (a, b) := rfl
theorem few1 {k : List D → D} {a : D} : few k [a] = some (k [a]) := few_s (by show 1 ≤ 100000; decide)
theorem few2 {k : List D → D} {a b : D} : few k [a, b] = some (k [a, b]) := few_s (by show 2 ≤ 100000; decide)
theorem few3 {k : List D → D} {a b c : D} : few k [a, b, c] = some (k [a, b, c]) := few_s (by show 3 ≤ 100000; decide)
theorem few0 {k : List D → D} : few k [] = some (k []) := rfl
theorem on1_s {f : D → Option D} {a : D} : on1 f [a] = f a := rfl
theorem on2_s {f : D → D → Option D} {a b : D} : on2 f [a, b] = f a b := rfl
theorem on3_s {f : D → D → D → Option D} {a b c : D} : on3 f [a, b, c] = f a b c := rfl
theorem on4_s {f : D → D → D → D → Option D} {a b c d : D} : on4 f [a, b, c, d] = f a b c d := rfl
end Oh
namespace Oh
theorem flT_nx {β : Type} {k : β → Option D} {b : β} : flT k (.nx b) = k b := rfl
theorem flT_rt {β : Type} {k : β → Option D} {d : D} : flT k (.rt d) = some d := rfl
theorem flF_nx {β γ δ : Type} {k : δ → Option (Fl β γ)} {b : δ} : flF k (.nx b) = k b := rfl
theorem flE_rt {β γ : Type} {d : D} : (flE (.rt d) : Option (Fl β γ)) = some (.rt d) := rfl
end Oh
namespace Oh
open PySem L2
theorem if_true_ {α : Type} {a b : α} : (if true = true then a else b) = a := rfl
theorem if_ff {α : Type} {a b : α} : (if false = true then a else b) = b := rfl
theorem on5_s {f : D → D → D → D → D → Option D} {a b c d e : D} : on5 f [a, b, c, d, e] = f a b c d e := rfl
theorem on6_s {f : D → D → D → D → D → D → Option D} {a b c d e g : D} : on6 f [a, b, c, d, e, g] = f a b c d e g := rfl
theorem on0_s {m : Option D} : on0 m [] = m := rfl
theorem if_T {α : Type} {a b : α} : (if True then a else b) = a := rfl
theorem if_F {α : Type} {a b : α} : (if False then a else b) = b := rfl
theorem bind_of {α β : Type} {m : Option α} {a : α} {k : α → Option β} (h : m = some a) : m.bind k = k a := by rw [h]; rfl
theorem map_of {α β : Type} {m : Option α} {a : α} {k : α → β} (h : m = some a) : m.map k = some (k a) := by rw [h]; rfl
theorem l_0 : D.int 0 = dn 0 := rfl
theorem l_1 : D.int 1 = dn 1 := rfl
theorem l_2 : D.int 2 = dn 2 := rfl
theorem l_3 : D.int 3 = dn 3 := rfl
theorem l_4 : D.int 4 = dn 4 := rfl
theorem l_5 : D.int 5 = dn 5 := rfl
theorem l_6 : D.int 6 = dn 6 := rfl
theorem l_7 : D.int 7 = dn 7 := rfl
theorem l_8 : D.int 8 = dn 8 := rfl
theorem l_9 : D.int 9 = dn 9 := rfl
theorem l_10 : D.int 10 = dn 10 := rfl
theorem l_11 : D.int 11 = dn 11 := rfl
theorem l_12 : D.int 12 = dn 12 := rfl
theorem l_13 : D.int 13 = dn 13 := rfl
theorem l_14 : D.int 14 = dn 14 := rfl
theorem l_15 : D.int 15 = dn 15 := rfl
theorem l_20 : D.int 20 = dn 20 := rfl
theorem l_21 : D.int 21 = dn 21 := rfl
theorem l_22 : D.int 22 = dn 22 := rfl
theorem l_25 : D.int 25 = dn 25 := rfl
theorem l_26 : D.int 26 = dn 26 := rfl
theorem l_30 : D.int 30 = dn 30 := rfl
theorem l_31 : D.int 31 = dn 31 := rfl
theorem l_32 : D.int 32 = dn 32 := rfl
theorem l_36 : D.int 36 = dn 36 := rfl
theorem l_38 : D.int 38 = dn 38 := rfl
theorem l_40 : D.int 40 = dn 40 := rfl
theorem l_60 : D.int 60 = dn 60 := rfl
theorem l_64 : D.int 64 = dn 64 := rfl
theorem l_70 : D.int 70 = dn 70 := rfl
theorem l_96 : D.int 96 = dn 96 := rfl
theorem l_97 : D.int 97 = dn 97 := rfl
theorem l_100 : D.int 100 = dn 100 := rfl
theorem l_128 : D.int 128 = dn 128 := rfl
theorem l_512 : D.int 512 = dn 512 := rfl
theorem l_7919 : D.int 7919 = dn 7919 := rfl
theorem int_n {n : Nat} : dInt (dn n) = some (dn n) := rfl
theorem int_bn {c : Bool} : dInt (.bl c) = some (dn (if c = true then 1 else 0)) := by cases c <;> rfl
theorem add_n {a b : Nat} : dAdd (dn a) (dn b) = some (dn (a + b)) := by
  show some (D.int ((a : Int) + b)) = some (D.int ((a + b : Nat) : Int))
  rw [Int.natCast_add]
theorem mod_n {a b : Nat} (h : 0 < b) : dMod (dn a) (dn b) = some (dn (a % b)) := by
  show dMod (.int a) (.int b) = _
  rw [mod_p (by omega)]
  show _ = some (D.int ((a % b : Nat) : Int))
  rw [Int.natCast_emod]
theorem div_n {a b : Nat} (h : 0 < b) (h2 : b < 2 ^ 64) : dFdiv (dn a) (dn b) = some (dn (a / b)) := by
  show dFdiv (.int a) (.int b) = _
  rw [fdiv_s (by omega) (by omega)]
  show _ = some (D.int ((a / b : Nat) : Int))
  rw [Int.natCast_ediv]
theorem mul_n {a b : Nat} (h : b < 2 ^ 64) : dMul (dn a) (dn b) = some (dn (a * b)) := by
  show dMul (.int a) (.int b) = _
  rw [mul_r (by omega)]
  show _ = some (D.int ((a * b : Nat) : Int))
  rw [Int.natCast_mul]
theorem mul_nl {a b : Nat} (h : a < 2 ^ 64) : dMul (dn a) (dn b) = some (dn (a * b)) := by
  show dMul (.int a) (.int b) = _
  rw [mul_l (by omega)]
  show _ = some (D.int ((a * b : Nat) : Int))
  rw [Int.natCast_mul]
theorem atI_n {α : Type} {xs : List α} {i : Nat} : atI xs (i : Int) = xs[i]? := by
  by_cases h : i < xs.length
  · rw [atI_s (List.getElem?_eq_getElem h), List.getElem?_eq_getElem h]
  · unfold atI ixN
    rw [if_pos (by omega), if_neg (by omega), List.getElem?_eq_none (by omega)]; rfl
theorem ix_ln {xs : List D} {i : Nat} : dIx (.lst xs) (dn i) = xs[i]? := atI_n
theorem ix_rn {xs : List D} {i : Nat} : dIx (.rol xs) (dn i) = xs[i]? := atI_n
theorem ix_tn {xs : List D} {i : Nat} : dIx (.tup xs) (dn i) = xs[i]? := atI_n
theorem list_t {xs : List D} : dList (.tup xs) = some (.lst xs) := rfl
theorem few5 {k : List D → D} {a b c d e : D} : few k [a, b, c, d, e] = some (k [a, b, c, d, e]) := few_s (by show 5 ≤ 100000; decide)
theorem lt_n {a b : Nat} : dLt (dn a) (dn b) = some (.bl (decide (a < b))) := by
  show some (D.bl (decide ((a : Int) < b))) = _
  congr 2; exact decide_eq_decide.mpr (by omega)
theorem gt_n {a b : Nat} : dGt (dn a) (dn b) = some (.bl (decide (b < a))) := by
  show some (D.bl (decide ((b : Int) < a))) = _
  congr 2; exact decide_eq_decide.mpr (by omega)
theorem le_n {a b : Nat} : dLe (dn a) (dn b) = some (.bl (decide (a ≤ b))) := by
  show some (D.bl (decide ((a : Int) ≤ b))) = _
  congr 2; exact decide_eq_decide.mpr (by omega)
theorem eqF_n {a b : Nat} : dEqF (dn a) (dn b) = some (.bl (decide (a = b))) := by
  show some (D.bl (decide ((a : Int) = b))) = _
  congr 2; exact decide_eq_decide.mpr (by omega)
theorem neF_n {a b : Nat} : dNeF (dn a) (dn b) = some (.bl (!decide (a = b))) := by
  show some (D.bl (!decide ((a : Int) = b))) = _
  congr 3; exact decide_eq_decide.mpr (by omega)
theorem rng_dns (n : Nat) : rngD 0 n = dns (List.range n) := by
  unfold rngD
  refine List.map_congr_left fun i _ => ?_
  show D.int (0 + (i : Int)) = D.int i
  rw [Int.zero_add]
/-- range, of a number that is not too great (else nothing) -/
noncomputable def rngM (n : Nat) : Option (List D) := dRng1 (dn n)
theorem rng1_m {n : Nat} : dRng1 (dn n) = rngM n := rfl
theorem rng_s {n : Nat} (h : n ≤ 1000000) : rngM n = some (dns (List.range n)) := (rng1_n (n := n) (by omega)).trans (congrArg some (rng_dns n))
theorem un3_t {a b c : D} : dUn3 (.tup [a, b, c]) = some (a, b, c) := rfl
theorem tru_l {xs : List D} : dTru (.lst xs) = some (!xs.isEmpty) := rfl
theorem tru_b {b : Bool} : dTru (.bl b) = some b := rfl
/-- append, at most so many -/
noncomputable def appM (xs : List D) (x : D) : Option D := if xs.length < 100000 then some (.lst (xs ++ [x])) else none
theorem app_n {xs : List D} {x : D} : dApp (.lst xs) x = appM xs x := rfl
theorem appM_s {xs : List D} {x : D} (h : xs.length < 100000) : appM xs x = some (.lst (xs ++ [x])) := if_pos h
noncomputable def capM (xs : List D) : Option (List D) := capD xs
theorem cap_n {xs : List D} : capD xs = capM xs := rfl
theorem capM_s {xs : List D} (h : xs.length ≤ 90000) : capM xs = some xs := if_pos h
theorem flat_n {n : Nat} : flatD (dn n) = some (dn n) := rfl
theorem flat_bl {b : Bool} : flatD (.bl b) = some (.bl b) := rfl
theorem optI_n {n : Nat} : optI (some (dn n)) = some (some (n : Int)) := rfl
theorem sl_n {xs : List D} {lo hi : Option Int} : dSl (.lst xs) lo hi = some (.lst (cutD xs lo hi)) := rfl
theorem zero_add_ {n : Nat} : 0 + n = n := Nat.zero_add n
/-! lists of numbers -/
noncomputable abbrev dl (xs : List Nat) : D := .lst (dns xs)
noncomputable abbrev dll (xss : List (List Nat)) : D := .lst (xss.map dl)
theorem compD_map {α : Type} {k : D → Option (Option D)} (enc : α → D) (g : α → D) {xs : List α} (h : ∀ x ∈ xs, k (enc x) = some (some (g x))) : compD k (xs.map enc) = some (xs.map g) := by
  induction xs with
  | nil => rfl
  | cons x xs ih =>
    show (k (enc x)).bind _ = _
    rw [h x List.mem_cons_self]
    show (compD k (xs.map enc)).bind _ = _
    rw [ih fun y hy => h y (List.mem_cons_of_mem _ hy)]
    rfl
theorem compD_filter {α : Type} {k : D → Option (Option D)} (enc : α → D) (g : α → D) (p : α → Bool) {xs : List α} (h : ∀ x ∈ xs, k (enc x) = some (if p x = true then some (g x) else none)) : compD k (xs.map enc) = some ((xs.filter p).map g) := by
  induction xs with
  | nil => rfl
  | cons x xs ih =>
    show (k (enc x)).bind _ = _
    rw [h x List.mem_cons_self]
    show (compD k (xs.map enc)).bind _ = _
    rw [ih fun y hy => h y (List.mem_cons_of_mem _ hy), List.filter_cons]
    cases p x <;> rfl
theorem compD_dns {k : D → Option (Option D)} (g : Nat → D) {xs : List Nat} (h : ∀ x ∈ xs, k (dn x) = some (some (g x))) : compD k (dns xs) = some (xs.map g) := compD_map dn g h
/-- a loop over numbers, step by step -/
theorem forS_dns {β σ : Type} {k : D → β → Option β} (e : σ → β) (g : σ → Nat → σ) (I : Nat → σ → Prop) {n : Nat} {s : σ} (h0 : I 0 s) (hs : ∀ i s, i < n → I i s → k (dn i) (e s) = some (e (g s i)) ∧ I (i + 1) (g s i)) :
    forS k (dns (List.range n)) (e s) = some (e ((List.range n).foldl g s)) ∧ I n ((List.range n).foldl g s) := by
  induction n with
  | zero => exact ⟨rfl, h0⟩
  | succ n ih =>
    obtain ⟨h1, h2⟩ := ih fun i s hi => hs i s (Nat.lt_succ_of_lt hi)
    obtain ⟨h3, h4⟩ := hs n _ (Nat.lt_succ_self n) h2
    have ap : ∀ (xs ys : List D) (b : β), forS k (xs ++ ys) b = (forS k xs b).bind (forS k ys) := fun xs ys b => by
      induction xs generalizing b with
      | nil => rfl
      | cons x xs ih2 =>
        show (k x b).bind (forS k (xs ++ ys)) = ((k x b).bind (forS k xs)).bind _
        cases k x b with
        | none => rfl
        | some b2 => exact ih2 b2
    have e0 : dns (List.range (n + 1)) = dns (List.range n) ++ [dn n] := by rw [List.range_succ]; exact List.map_append
    rw [e0, List.range_succ, ap, h1, List.foldl_append]
    refine ⟨?_, h4⟩
    show (k (dn n) _).bind (forS k []) = _
    rw [h3]
    rfl
end Oh
namespace Oh
open PySem L2 TL
/-! ### texts as lists of numbers -/
noncomputable abbrev sD (l : List Nat) : D := .str ⟨l.toArray⟩
noncomputable abbrev ssD (ls : List (List Nat)) : D := .lst (ls.map sD)
noncomputable abbrev sS (l : List Nat) : Str := ⟨l.toArray⟩
noncomputable def Wd (s : String) : List Nat := s.toList.map Char.toNat
theorem lit_s (s : String) : D.str (Str.ofString s) = sD (Wd s) := congrArg D.str (ext_tl (by rw [tl_ofString]; rfl))
theorem len_s {l : List Nat} : (sS l).length = l.length := by rw [len_tl]
theorem sS_inj {a b : List Nat} (h : sS a = sS b) : a = b := congrArg tl h
theorem add_s {a b : List Nat} (h : a.length + b.length ≤ 100000) : dAdd (sD a) (sD b) = some (sD (a ++ b)) := by
  show (if (sS a).length + (sS b).length ≤ 100000 then some (D.str (sS a ++ sS b)) else none) = _
  rw [len_s, len_s, if_pos h]
  exact congrArg (fun z => some (D.str z)) (ext_tl (by rw [tl_append]))
theorem ix_s {l : List Nat} {i : Nat} (h : l.length ≤ 100000) : dIx (sD l) (dn i) = (l[i]?).map fun c => sD [c] := by
  show (if (sS l).length ≤ 100000 then (atI l (i : Int)).map (fun c => D.str ⟨#[c]⟩) else none) = _
  rw [len_s, if_pos h, atI_n]
theorem in_s {c : Nat} {l : List Nat} : dInT (sD [c]) (sD l) = some (.bl (decide (c ∈ l))) := rfl
theorem eqF_s {a b : List Nat} : dEqF (sD a) (sD b) = some (.bl (decide (a = b))) := by
  show some (D.bl (decide (sS a = sS b))) = _
  by_cases h : a = b
  · subst h; rw [decide_eq_true rfl, decide_eq_true rfl]
  · rw [decide_eq_false h, decide_eq_false fun z => h (sS_inj z)]
theorem neF_s {a b : List Nat} : dNeF (sD a) (sD b) = some (.bl (!decide (a = b))) := by
  show some (D.bl (!decide (sS a = sS b))) = _
  by_cases h : a = b
  · subst h; rw [decide_eq_true rfl, decide_eq_true rfl]
  · rw [decide_eq_false h, decide_eq_false fun z => h (sS_inj z)]
theorem any_s {a : List Nat} : ∀ ls : List (List Nat), ((ls.map sD).any fun y => eqFl y (sD a)) = decide (a ∈ ls)
  | [] => rfl
  | b :: ls => by
    rw [List.map_cons, List.any_cons, any_s ls]
    show ((sS b == sS a) || decide (a ∈ ls)) = _
    by_cases h : b = a
    · subst h; simp
    · rw [beq_false_of_ne fun z => h (sS_inj z), Bool.false_or]
      simp [show ¬ a = b from fun z => h z.symm]
theorem allfl_s : ∀ ls : List (List Nat), (ls.map sD).all flatB = true
  | [] => rfl
  | _ :: ls => by rw [List.map_cons, List.all_cons, allfl_s ls]; rfl
theorem mem_s {a : List Nat} {ls : List (List Nat)} : dIn (sD a) (ssD ls) = some (.bl (decide (a ∈ ls))) := by
  show ((if flatB (sD a) = true ∧ (ls.map sD).all flatB = true then some ((ls.map sD).any fun y => eqFl y (sD a)) else none).map D.bl) = _
  rw [if_pos ⟨rfl, allfl_s ls⟩, any_s]; rfl
theorem memt_s {a : List Nat} {ls : List (List Nat)} : dIn (sD a) (.tup (ls.map sD)) = some (.bl (decide (a ∈ ls))) := by
  show ((if flatB (sD a) = true ∧ (ls.map sD).all flatB = true then some ((ls.map sD).any fun y => eqFl y (sD a)) else none).map D.bl) = _
  rw [if_pos ⟨rfl, allfl_s ls⟩, any_s]; rfl
theorem nin_s {a : List Nat} {ls : List (List Nat)} : dNin (sD a) (ssD ls) = some (.bl (!decide (a ∈ ls))) := by
  show ((if flatB (sD a) = true ∧ (ls.map sD).all flatB = true then some ((ls.map sD).any fun y => eqFl y (sD a)) else none).map fun b => D.bl (!b)) = _
  rw [if_pos ⟨rfl, allfl_s ls⟩, any_s]; rfl
theorem chars_s {l : List Nat} : dChars (sD l) = some (l.map fun c => sD [c]) := rfl
theorem cutS_to {l : List Nat} {k : Nat} : cutS (sS l) none (some (k : Int)) = sS (l.take k) := by
  unfold cutS
  rw [HT.sIx_none, HT.sIx_nat, List.drop_zero, Nat.sub_zero, len_s]
  show sS (l.take (min k l.length)) = _
  by_cases h : k ≤ l.length
  · rw [Nat.min_eq_left h]
  · rw [Nat.min_eq_right (by omega), List.take_length, List.take_of_length_le (by omega)]
theorem cutS_from {l : List Nat} {k : Nat} : cutS (sS l) (some (k : Int)) none = sS (l.drop k) := by
  unfold cutS
  rw [HT.sIx_none, HT.sIx_nat, len_s]
  show sS ((l.drop (min k l.length)).take (l.length - min k l.length)) = _
  by_cases h : k ≤ l.length
  · rw [Nat.min_eq_left h, List.take_of_length_le (by rw [List.length_drop]; omega)]
  · rw [Nat.min_eq_right (by omega), List.drop_length, List.drop_eq_nil_of_le (by omega), List.take_nil]
theorem slS_to {l : List Nat} {k : Nat} (h : l.length ≤ 100000) : dSlS (sD l) none (some (k : Int)) = some (sD (l.take k)) := by
  show (if (sS l).length ≤ 100000 then some (D.str (cutS (sS l) none (some (k : Int)))) else none) = _
  rw [len_s, if_pos h, cutS_to]
theorem slS_from {l : List Nat} {k : Nat} (h : l.length ≤ 100000) : dSlS (sD l) (some (k : Int)) none = some (sD (l.drop k)) := by
  show (if (sS l).length ≤ 100000 then some (D.str (cutS (sS l) (some (k : Int)) none)) else none) = _
  rw [len_s, if_pos h, cutS_from]
theorem mul_sp {k : Nat} (h : k ≤ 1000) : dMulT (sD [32]) (dn k) = some (sD (List.replicate k 32)) := by
  show (if 0 ≤ (k : Int) ∧ (k : Int) ≤ 1000 ∧ (sS [32]).length ≤ 1000 then some (D.str (Txt.mul (sS [32]) (k : Int))) else none) = _
  rw [if_pos ⟨by omega, by omega, by rw [len_s]; decide⟩]
  exact congrArg (fun z => some (D.str z)) (ext_tl (by rw [show tl (Txt.mul (sS [32]) (k : Int)) = _ from PyProof.Rows.mul_one_list 32 k]; exact congrArg (fun n => List.replicate n 32) (Int.toNat_natCast k)))
theorem split_s {l : List Nat} (h : l.length ≤ 90000) : dSplit (sD l) (sD [32]) = some (ssD (spl [32] 0 [] l)) := by
  show (if ((sS [32]).length == 0) = false ∧ (sS l).length ≤ 90000 then some (D.lst ((Txt.split (sS l) (sS [32])).map .str)) else none) = _
  rw [len_s, len_s, if_pos ⟨rfl, h⟩]
  refine congrArg (fun z => some (D.lst z)) ?_
  have e := split_spl (sS l) (sS [32]) (by simp) (kind_ok (by rw [← Array.all_toList]; decide))
  have e2 : Txt.split (sS l) (sS [32]) = (spl [32] 0 [] l).map sS := map_tl_inj (by rw [e, List.map_map]; exact (List.map_id _).symm)
  rw [e2, List.map_map]; rfl
theorem kys_s : ∀ ls : List (List Nat), kysD (ls.map sD) = some (ls.map fun l => Sum.inr (sS l))
  | [] => rfl
  | l :: ls => by
    show (kyD (sD l)).bind (fun k => (kysD (ls.map sD)).bind fun ks => some (k :: ks)) = _
    rw [kys_s ls]; rfl
end Oh
namespace Oh
open PySem L2

/-! ### the drawn row -/
theorem row_ok (ns : List Int) (p n : Nat) (hn : n ≤ 1000) : Ok (m_law_row (.rol (dis ns)) (.int p) (.int n)) (fun r => ∃ xs : List Int, r = .lst (dis xs) ∧ xs.length = n ∧ ∀ x ∈ xs, 0 ≤ x ∧ x < 1000) := by
  unfold m_law_row
  simp -implicitDefEqProofs only [Option.bind_some, on1, dLen, dAdd, dLt, dSub, asB, mul_l (a := 7919) (by decide : -(2 ^ 64) < (7919 : Int) ∧ (7919 : Int) < 2 ^ 64), pow_s (a := 10) (b := 18) (by decide), few_s (xs := []) (Nat.zero_le _), rng1_n (n := n) (by omega)]
  refine ok_bind (P := fun d => ∃ c, d = .int c) (ok_ite (fun h => ?_) (fun h => ok_some ⟨_, rfl⟩)) fun d ⟨c, e⟩ => ?_
  · have h2 : p < (dis ns).length := by have := of_decide_eq_true h; omega
    rw [dis_len] at h2
    simp -implicitDefEqProofs only [dIx]
    rw [atI_s (dis_get (List.getElem?_eq_getElem h2))]
    exact ok_some ⟨_, rfl⟩
  · subst e
    simp -implicitDefEqProofs only [Option.bind_some, dSub]
    refine ok_bind (P := fun b => ∃ xs : List Int, b.1 = .lst (dis xs) ∧ xs.length = n ∧ ∀ x ∈ xs, 0 ≤ x ∧ x < 1000) ?_ fun b ⟨xs, e, h⟩ => ok_some ⟨xs, e, h⟩
    refine forS_rng (fun i b => ∃ (xs : List Int) (r : Int), b = (.lst (dis xs), .int r) ∧ xs.length = i ∧ ∀ x ∈ xs, 0 ≤ x ∧ x < 1000) ⟨[], _, rfl, rfl, by simp⟩ (fun i b hi hp => ?_) (fun b ⟨xs, r, e, h⟩ => ⟨xs, by rw [e], h⟩)
    obtain ⟨xs, r, rfl, hl, hx⟩ := hp
    have grow : ∀ (z r' : Int), ∃ (ys : List Int) (r2 : Int), (D.lst (dis xs ++ [D.int (z % 1000)]), D.int r') = (D.lst (dis ys), D.int r2) ∧ ys.length = i + 1 ∧ ∀ x ∈ ys, 0 ≤ x ∧ x < 1000 := fun z r' => by
      refine ⟨xs ++ [z % 1000], r', by rw [dis_app], by simp [hl], fun x hx' => ?_⟩
      rcases List.mem_append.mp hx' with h | h
      · exact hx x h
      · rw [List.mem_singleton.mp h]; omega
    have hA : ∀ x : D, dApp (.lst (dis xs)) x = some (.lst (dis xs ++ [x])) := fun x => app_s (by rw [dis_len]; omega)
    simp -implicitDefEqProofs only [Option.bind_some, dGt, asB]
    refine ok_bind (P := fun s => ∃ (ys : List Int) (r2 : Int), s = (D.lst (dis ys), D.int r2) ∧ ys.length = i + 1 ∧ ∀ x ∈ ys, 0 ≤ x ∧ x < 1000) (ok_ite (fun h => ?_) (fun h => ?_)) fun s hs => ok_some hs
    · simp -implicitDefEqProofs only [Option.bind_some, on1, dInt, mod_p (b := 1000) (by decide), fdiv_s (b := 1000) (by decide) (by decide), hA]
      exact ok_some (grow _ _)
    · simp -implicitDefEqProofs only [Option.bind_some, on1, dInt, dAdd, mod_p (b := 2147483647) (by decide), mod_p (b := 2147483399) (by decide), mod_p (b := 1000) (by decide), fdiv_s (b := 64) (by decide) (by decide), mul_r (b := 48271) (by decide), mul_r (b := 69621) (by decide), mul_r (b := 16807) (by decide), mul_r (b := 40692) (by decide), hA]
      rw [mul_l (by have := Int.emod_lt_of_pos (c * 48271 + (0 + (i : Int)) * 69621 + 12345) (show (0 : Int) < 2147483647 by decide); have := Int.emod_nonneg (c * 48271 + (0 + (i : Int)) * 69621 + 12345) (show (2147483647 : Int) ≠ 0 by decide); omega)]
      simp -implicitDefEqProofs only [Option.bind_some, on1, dInt, dAdd, mod_p (b := 2147483399) (by decide), mod_p (b := 1000) (by decide), fdiv_s (b := 64) (by decide) (by decide), hA]
      exact ok_some (grow _ _)
end Oh
namespace Oh
open PySem L2
/-! ### the drawn row, as numbers from 0 on -/
theorem rowN_ok (ns : List Int) (p n : Nat) (hn : n ≤ 1000) : Ok (m_law_row (.rol (dis ns)) (dn p) (dn n)) (fun r => ∃ xs : List Nat, r = dl xs ∧ xs.length = n ∧ ∀ x ∈ xs, x < 1000) := by
  refine ok_mono (row_ok ns p n hn) fun r ⟨xs, e, hl, hx⟩ => ⟨xs.map Int.toNat, ?_, by rw [List.length_map]; exact hl, fun x h => ?_⟩
  · rw [e]
    show D.lst (dis xs) = D.lst ((xs.map Int.toNat).map dn)
    rw [List.map_map]
    congr 1
    refine List.map_congr_left fun x h => ?_
    show D.int x = D.int ((x.toNat : Nat) : Int)
    rw [Int.toNat_of_nonneg (hx x h).1]
  · obtain ⟨y, hy, rfl⟩ := List.mem_map.mp h
    have := hx y hy
    omega
theorem row_get {xs : List Nat} {n i : Nat} (hl : xs.length = n) (h : i < n) : ∃ x, xs[i]? = some x := ⟨xs[i], List.getElem?_eq_getElem (by omega)⟩
theorem dns_at {xs : List Nat} {i x : Nat} (h : xs[i]? = some x) : (dns xs)[i]? = some (dn x) := dns_get h
theorem dll_at {xs : List (List Nat)} {i : Nat} {x : List Nat} (h : xs[i]? = some x) : (xs.map dl)[i]? = some (dl x) := by rw [List.getElem?_map, h]; rfl
/-! ### shapes of houses -/
noncomputable def prodN (bs : List Nat) : Nat := bs.foldl (fun a b => a * b) 1
noncomputable def hv (hs : List (List Nat)) (v : Nat) : List Nat := hs.getD v []
noncomputable def ct (cs : List Nat) (v : Nat) : Nat := cs.getD v 0
noncomputable def bnd (cs : List Nat) (h : List Nat) : List Nat := h.map (ct cs)
noncomputable def szN (cs : List Nat) (hs : List (List Nat)) (v : Nat) : Nat := prodN (bnd cs (hv hs v))
noncomputable def wayN (cs : List Nat) (hs : List (List Nat)) : Nat := (List.range cs.length).foldl (fun m v => m * ct cs v ^ szN cs hs v) 1
structure Shp (cs : List Nat) (hs : List (List Nat)) : Prop where
  len : hs.length = cs.length
  lo : 1 ≤ cs.length
  hi : cs.length ≤ 5
  cnt : ∀ c ∈ cs, c = 2 ∨ c = 3
  asc : ∀ h ∈ hs, h.Pairwise (· < ·)
  lt : ∀ v u, u ∈ hv hs v → u < v
theorem ct_get {cs : List Nat} {v : Nat} (h : v < cs.length) : cs[v]? = some (ct cs v) := by unfold ct; rw [List.getD_eq_getElem?_getD, List.getElem?_eq_getElem h]; rfl
theorem hv_get {hs : List (List Nat)} {v : Nat} (h : v < hs.length) : hs[v]? = some (hv hs v) := by unfold hv; rw [List.getD_eq_getElem?_getD, List.getElem?_eq_getElem h]; rfl
theorem asc_len : ∀ (h : List Nat) (a v : Nat), h.Pairwise (· < ·) → (∀ u ∈ h, a ≤ u ∧ u < v) → h.length ≤ v - a
  | [], _, _, _, _ => Nat.zero_le _
  | x :: h, a, v, p, q => by
    have hx := q x List.mem_cons_self
    have := asc_len h (x + 1) v (List.pairwise_cons.mp p).2 fun u hu => ⟨(List.pairwise_cons.mp p).1 u hu, (q u (List.mem_cons_of_mem _ hu)).2⟩
    rw [List.length_cons]
    omega
section
variable {cs : List Nat} {hs : List (List Nat)} {v : Nat}
theorem Shp.ct23 (s : Shp cs hs) (h : v < cs.length) : ct cs v = 2 ∨ ct cs v = 3 := s.cnt _ (List.mem_of_getElem? (ct_get h))
theorem Shp.hlen (s : Shp cs hs) (h : v < cs.length) : (hv hs v).length ≤ v :=
  asc_len (hv hs v) 0 v (s.asc _ (List.mem_of_getElem? (hv_get (by rw [s.len]; exact h)))) fun u hu => ⟨Nat.zero_le _, s.lt v u hu⟩
theorem Shp.hin (s : Shp cs hs) (h : v < cs.length) : ∀ u ∈ hv hs v, u < cs.length := fun u hu => Nat.lt_trans (s.lt v u hu) h
theorem prod_fold (bs : List Nat) : ∀ a, bs.foldl (fun a b => a * b) a = a * prodN bs := by
  unfold prodN
  induction bs with
  | nil => intro a; exact (Nat.mul_one a).symm
  | cons b bs ih =>
    intro a
    rw [List.foldl_cons, List.foldl_cons, ih, ih (1 * b), Nat.one_mul, Nat.mul_assoc]
theorem prod_cons (b : Nat) (bs : List Nat) : prodN (b :: bs) = b * prodN bs := by
  show (b :: bs).foldl (fun a b => a * b) 1 = _
  rw [prod_fold]
  show 1 * ((b :: bs).foldl (fun a b => a * b) 1) = _
  rw [Nat.one_mul, List.foldl_cons, Nat.one_mul, prod_fold]
theorem prod_le {bs : List Nat} (h : ∀ b ∈ bs, b ≤ 3) : prodN bs ≤ 3 ^ bs.length := by
  induction bs with
  | nil => exact Nat.le_refl _
  | cons b bs ih =>
    rw [prod_cons, List.length_cons, Nat.pow_succ, Nat.mul_comm]
    exact Nat.mul_le_mul (ih fun c hc => h c (List.mem_cons_of_mem _ hc)) (h b List.mem_cons_self)
theorem Shp.bnd23 (s : Shp cs hs) {h : List Nat} (hh : ∀ u ∈ h, u < cs.length) : ∀ b ∈ bnd cs h, b = 2 ∨ b = 3 := fun b hb => by
  obtain ⟨u, hu, rfl⟩ := List.mem_map.mp hb
  exact s.ct23 (hh u hu)
theorem bnd_len {h : List Nat} : (bnd cs h).length = h.length := List.length_map _
theorem Shp.sz_le (s : Shp cs hs) (h : v < cs.length) : szN cs hs v ≤ 81 := by
  refine Nat.le_trans (prod_le fun b hb => by have := s.bnd23 (s.hin h) b hb; omega) ?_
  rw [bnd_len]
  have h1 := s.hlen h
  have h2 := s.hi
  exact Nat.pow_le_pow_right (n := 3) (by decide) (show (hv hs v).length ≤ 4 by omega)
/-! the mirrors on them -/
theorem size_ok {bs : List Nat} (h : ∀ b ∈ bs, b < 2 ^ 64) : m_law_size (dl bs) = some (dn (prodN bs)) := by
  unfold m_law_size
  simp -implicitDefEqProofs only [Option.bind_some, Option.map_some, if_true_, if_ff, if_T, if_F, on0_s, on1_s, on2_s, on3_s, on4_s, on5_s, on6_s, asL_l, asL_r, asT_t, asB_b, len_l, len_r, len_t, l_0, l_1, l_2, l_3, l_4, l_5, l_6, l_7, l_8, l_9, l_10, l_11, l_12, l_13, l_14, l_15, l_20, l_21, l_22, l_25, l_26, l_30, l_31, l_32, l_36, l_38, l_40, l_60, l_64, l_70, l_96, l_97, l_100, l_128, l_512, l_7919, int_n, int_i, int_bn, add_n, ix_ln, ix_rn, ix_tn, list_l, list_t, few0, few1, few2, few3, few5, lt_n, gt_n, le_n, eqF_n, neF_n, rng1_m, flT_nx, flT_rt, flF_nx, flE_rt, un2_t, un3_t, tru_l, tru_b, app_n, cap_n, flat_n, flat_bl, optI_n, sl_n, zero_add_]
  exact bind_of (forS_foldl dn dn (fun a b => a * b) (fun _ => True) (xs := bs) (s := 1) trivial fun s x hx _ => ⟨by simp -implicitDefEqProofs only [Option.bind_some, Option.map_some, if_true_, if_ff, if_T, if_F, on0_s, on1_s, on2_s, on3_s, on4_s, on5_s, on6_s, asL_l, asL_r, asT_t, asB_b, len_l, len_r, len_t, l_0, l_1, l_2, l_3, l_4, l_5, l_6, l_7, l_8, l_9, l_10, l_11, l_12, l_13, l_14, l_15, l_20, l_21, l_22, l_25, l_26, l_30, l_31, l_32, l_36, l_38, l_40, l_60, l_64, l_70, l_96, l_97, l_100, l_128, l_512, l_7919, int_n, int_i, int_bn, add_n, ix_ln, ix_rn, ix_tn, list_l, list_t, few0, few1, few2, few3, few5, lt_n, gt_n, le_n, eqF_n, neF_n, rng1_m, flT_nx, flT_rt, flF_nx, flE_rt, un2_t, un3_t, tru_l, tru_b, app_n, cap_n, flat_n, flat_bl, optI_n, sl_n, zero_add_, mul_n (h x hx)], trivial⟩).1
theorem bnd_dns {h : List Nat} : h.map (fun u => dn (ct cs u)) = dns (bnd cs h) := by
  show _ = (h.map (ct cs)).map dn
  rw [List.map_map]; rfl
theorem pow_fold (c m n : Nat) : (List.range n).foldl (fun m _ => m * c) m = m * c ^ n := by
  induction n with
  | zero => exact (Nat.mul_one m).symm
  | succ n ih => rw [List.range_succ, List.foldl_append, ih, Nat.pow_succ]; exact Nat.mul_assoc _ _ _
theorem Shp.count (s : Shp cs hs) : m_law_count_ways (dl cs) (dll hs) = some (dn (wayN cs hs)) := by
  unfold m_law_count_ways
  simp -implicitDefEqProofs only [Option.bind_some, Option.map_some, if_true_, if_ff, if_T, if_F, on0_s, on1_s, on2_s, on3_s, on4_s, on5_s, on6_s, asL_l, asL_r, asT_t, asB_b, len_l, len_r, len_t, l_0, l_1, l_2, l_3, l_4, l_5, l_6, l_7, l_8, l_9, l_10, l_11, l_12, l_13, l_14, l_15, l_20, l_21, l_22, l_25, l_26, l_30, l_31, l_32, l_36, l_38, l_40, l_60, l_64, l_70, l_96, l_97, l_100, l_128, l_512, l_7919, int_n, int_i, int_bn, add_n, ix_ln, ix_rn, ix_tn, list_l, list_t, few0, few1, few2, few3, few5, lt_n, gt_n, le_n, eqF_n, neF_n, rng1_m, flT_nx, flT_rt, flF_nx, flE_rt, un2_t, un3_t, tru_l, tru_b, app_n, cap_n, flat_n, flat_bl, optI_n, sl_n, zero_add_, dns_len, rng_s (n := cs.length) (by have := s.hi; omega)]
  refine bind_of (forS_dns dn (fun m v => m * ct cs v ^ szN cs hs v) (fun _ _ => True) trivial fun v m hv _ => ⟨?_, trivial⟩).1
  have e1 : (dns cs)[v]? = some (dn (ct cs v)) := dns_at (ct_get hv)
  have e3 : compD (fun c_10 => Option.map some (dIx (dl cs) c_10)) (dns (Oh.hv hs v)) = some (dns (bnd cs (Oh.hv hs v))) := (compD_dns (fun u => dn (ct cs u)) fun u hu => by simp -implicitDefEqProofs only [Option.bind_some, Option.map_some, if_true_, if_ff, if_T, if_F, on0_s, on1_s, on2_s, on3_s, on4_s, on5_s, on6_s, asL_l, asL_r, asT_t, asB_b, len_l, len_r, len_t, l_0, l_1, l_2, l_3, l_4, l_5, l_6, l_7, l_8, l_9, l_10, l_11, l_12, l_13, l_14, l_15, l_20, l_21, l_22, l_25, l_26, l_30, l_31, l_32, l_36, l_38, l_40, l_60, l_64, l_70, l_96, l_97, l_100, l_128, l_512, l_7919, int_n, int_i, int_bn, add_n, ix_ln, ix_rn, ix_tn, list_l, list_t, few0, few1, few2, few3, few5, lt_n, gt_n, le_n, eqF_n, neF_n, rng1_m, flT_nx, flT_rt, flF_nx, flE_rt, un2_t, un3_t, tru_l, tru_b, app_n, cap_n, flat_n, flat_bl, optI_n, sl_n, zero_add_, dns_at (ct_get (s.hin hv u hu))]).trans (by rw [bnd_dns])
  have e4 : m_law_size (dl (bnd cs (Oh.hv hs v))) = some (dn (szN cs hs v)) := size_ok fun b hb => by have := s.bnd23 (s.hin hv) b hb; omega
  have e5 : rngM (szN cs hs v) = some (dns (List.range (szN cs hs v))) := rng_s (by have := s.sz_le hv; omega)
  simp -implicitDefEqProofs only [Option.bind_some, Option.map_some, if_true_, if_ff, if_T, if_F, on0_s, on1_s, on2_s, on3_s, on4_s, on5_s, on6_s, asL_l, asL_r, asT_t, asB_b, len_l, len_r, len_t, l_0, l_1, l_2, l_3, l_4, l_5, l_6, l_7, l_8, l_9, l_10, l_11, l_12, l_13, l_14, l_15, l_20, l_21, l_22, l_25, l_26, l_30, l_31, l_32, l_36, l_38, l_40, l_60, l_64, l_70, l_96, l_97, l_100, l_128, l_512, l_7919, int_n, int_i, int_bn, add_n, ix_ln, ix_rn, ix_tn, list_l, list_t, few0, few1, few2, few3, few5, lt_n, gt_n, le_n, eqF_n, neF_n, rng1_m, flT_nx, flT_rt, flF_nx, flE_rt, un2_t, un3_t, tru_l, tru_b, app_n, cap_n, flat_n, flat_bl, optI_n, sl_n, zero_add_, dll_at (hv_get (hs := hs) (v := v) (by rw [s.len]; exact hv)), capM_s (xs := dns (Oh.hv hs v)) (by rw [dns_len]; have := s.hlen hv; have := s.hi; omega), e1, e3, e4, e5]
  refine bind_of ((forS_dns dn (fun m _ => m * ct cs v) (fun _ _ => True) trivial fun i m hi _ => ⟨by simp -implicitDefEqProofs only [Option.bind_some, Option.map_some, if_true_, if_ff, if_T, if_F, on0_s, on1_s, on2_s, on3_s, on4_s, on5_s, on6_s, asL_l, asL_r, asT_t, asB_b, len_l, len_r, len_t, l_0, l_1, l_2, l_3, l_4, l_5, l_6, l_7, l_8, l_9, l_10, l_11, l_12, l_13, l_14, l_15, l_20, l_21, l_22, l_25, l_26, l_30, l_31, l_32, l_36, l_38, l_40, l_60, l_64, l_70, l_96, l_97, l_100, l_128, l_512, l_7919, int_n, int_i, int_bn, add_n, ix_ln, ix_rn, ix_tn, list_l, list_t, few0, few1, few2, few3, few5, lt_n, gt_n, le_n, eqF_n, neF_n, rng1_m, flT_nx, flT_rt, flF_nx, flE_rt, un2_t, un3_t, tru_l, tru_b, app_n, cap_n, flat_n, flat_bl, optI_n, sl_n, zero_add_, mul_n (a := m) (b := ct cs v) (by have := s.ct23 hv; omega)], trivial⟩).1.trans ?_)
  rw [pow_fold]
end
end Oh
namespace Oh
open PySem L2
theorem pop2_n {hs : List (List Nat)} {v j : Nat} {h : List Nat} (e : hs[v]? = some h) (hj : j < h.length) (hl : h.length ≤ 1000) : dPop2 (dll hs) (dn v) (dn j) = some (dll (hs.set v (h.eraseIdx j))) := by
  have hv : v < hs.length := (List.getElem?_eq_some_iff.mp e).1
  show (ixN (hs.map dl).length ((v : Nat) : Int)).bind _ = _
  rw [Evl.ixN_nat (by rw [List.length_map]; exact hv)]
  show (match (hs.map dl)[v]? with | some (.lst xs) => _ | _ => _) = _
  rw [dll_at e]
  have hs1 : seqIndex? ((j : Nat) : Int) (dns h).length = some j := by
    unfold seqIndex?
    rw [dns_len]
    have h1 : ¬ ((j : Nat) : Int) < 0 := by omega
    simp only [h1, if_false]
    have h2 : (decide (0 ≤ ((j : Nat) : Int)) && decide (((j : Nat) : Int) < (h.length : Nat))) = true := by simp; omega
    rw [if_pos h2]; rfl
  show (if -(2 ^ 63) ≤ ((j : Nat) : Int) ∧ ((j : Nat) : Int) < 2 ^ 63 then (seqIndex? ((j : Nat) : Int) (dns h).length).bind (fun c => if c < (dns h).length then some (D.lst ((hs.map dl).set v (.lst ((dns h).eraseIdx c)))) else none) else none) = _
  rw [if_pos (by omega), hs1]
  show (if j < (dns h).length then _ else none) = _
  rw [if_pos (by rw [dns_len]; exact hj)]
  rw [show dll (hs.set v (h.eraseIdx j)) = .lst ((hs.map dl).set v (dl (h.eraseIdx j))) from congrArg D.lst List.map_set]
  have e9 : (dns h).eraseIdx j = dns (h.eraseIdx j) := by
    show (h.map dn).eraseIdx j = (h.eraseIdx j).map dn
    rw [List.eraseIdx_eq_take_drop_succ, List.eraseIdx_eq_take_drop_succ, List.map_append, List.map_take, List.map_drop]
  rw [e9]
end Oh
namespace Oh
open PySem L2
theorem set_n {cs : List Nat} {v c : Nat} (h : v < cs.length) : dSet (dl cs) (dn v) (dn c) = some (dl (cs.set v c)) := by
  show dSet (.lst (dns cs)) (.int ((v : Nat) : Int)) (dn c) = _
  rw [set_s (by rw [dns_len]; exact h), ← List.map_set]
noncomputable def visN (n r t v : Nat) : Nat := ((List.range t).filter fun s => (r + s) % n = v).length
noncomputable def pot (cs : List Nat) (hs : List (List Nat)) (v : Nat) : Nat := (hv hs v).length + (if ct cs v = 3 then 1 else 0)
theorem vis_all : ∀ n, n < 6 → ∀ r, r < n → ∀ v, v < n → v + 1 ≤ visN n r 30 v := by decide +kernel
theorem vis_mod (n r t v : Nat) : visN n r t v = visN n (r % n) t v := by
  unfold visN
  congr 2
  funext s
  rw [Nat.mod_add_mod]
theorem vis_succ (n r t v : Nat) : visN n r (t + 1) v = visN n r t v + if (r + t) % n = v then 1 else 0 := by
  unfold visN
  rw [List.range_succ, List.filter_append, List.length_append, List.filter_cons, List.filter_nil]
  by_cases h : (r + t) % n = v
  · simp [h]
  · simp [h]
section
variable {cs : List Nat} {hs : List (List Nat)} {v : Nat}
theorem ct_set {c u : Nat} (h : v < cs.length) : ct (cs.set v c) u = if u = v then c else ct cs u := by
  unfold ct
  rw [List.getD_eq_getElem?_getD, List.getD_eq_getElem?_getD]
  by_cases e : u = v
  · subst e; rw [List.getElem?_set_self h, if_pos rfl]; rfl
  · rw [List.getElem?_set_ne (fun z => e z.symm), if_neg e]
theorem hv_set {x : List Nat} {u : Nat} (h : v < hs.length) : hv (hs.set v x) u = if u = v then x else hv hs u := by
  unfold hv
  rw [List.getD_eq_getElem?_getD, List.getD_eq_getElem?_getD]
  by_cases e : u = v
  · subst e; rw [List.getElem?_set_self h, if_pos rfl]; rfl
  · rw [List.getElem?_set_ne (fun z => e z.symm), if_neg e]
theorem Shp.setC (s : Shp cs hs) : Shp (cs.set v 2) hs := ⟨by rw [List.length_set]; exact s.len, by rw [List.length_set]; exact s.lo, by rw [List.length_set]; exact s.hi, fun c hc => (List.mem_or_eq_of_mem_set hc).elim (s.cnt c) .inl, s.asc, s.lt⟩
theorem Shp.setH (s : Shp cs hs) (h : v < hs.length) {j : Nat} : Shp cs (hs.set v ((hv hs v).eraseIdx j)) := by
  refine ⟨by rw [List.length_set]; exact s.len, s.lo, s.hi, s.cnt, fun x hx => ?_, fun w u hu => ?_⟩
  · rcases List.mem_or_eq_of_mem_set hx with z | z
    · exact s.asc x z
    · rw [z]; exact (s.asc _ (List.mem_of_getElem? (hv_get h))).sublist (List.eraseIdx_sublist _ _)
  · rw [hv_set h] at hu
    by_cases e : w = v
    · rw [if_pos e] at hu
      subst e
      exact s.lt w u ((List.eraseIdx_sublist _ _).subset hu)
    · rw [if_neg e] at hu; exact s.lt w u hu
/-- all is reduced: at most 32 ways -/
theorem Shp.least (s : Shp cs hs) (h : ∀ v, v < cs.length → pot cs hs v = 0) : wayN cs hs ≤ 32 := by
  have e : ∀ v, v < cs.length → ct cs v ^ szN cs hs v = 2 := fun v hv1 => by
    have h1 := h v hv1
    unfold pot at h1
    have h2 : hv hs v = [] := List.length_eq_zero_iff.mp (by omega)
    have h3 : ct cs v = 2 := by
      rcases s.ct23 hv1 with z | z
      · exact z
      · rw [if_pos z] at h1; omega
    unfold szN
    rw [h2, h3]; rfl
  have key : ∀ k, k ≤ cs.length → (List.range k).foldl (fun m v => m * ct cs v ^ szN cs hs v) 1 = 2 ^ k := by
    intro k
    induction k with
    | zero => intro _; rfl
    | succ k ih =>
      intro hk
      rw [List.range_succ, List.foldl_append, ih (by omega), Nat.pow_succ]
      show 2 ^ k * ct cs k ^ szN cs hs k = _
      rw [e k (by omega)]
  unfold wayN
  rw [key _ (Nat.le_refl _)]
  have := s.hi
  exact Nat.pow_le_pow_right (n := 2) (by decide) this
end
theorem shape_ok (ns : List Int) (p cap : Nat) (hcap : 32 ≤ cap) : Ok (m_law_shape (.rol (dis ns)) (dn p) (dn cap)) (fun r => ∃ cs hs, r = .tup [dl cs, dll hs] ∧ Shp cs hs ∧ wayN cs hs ≤ cap) := by
  unfold m_law_shape
  simp -implicitDefEqProofs only [Option.bind_some, Option.map_some, if_true_, if_ff, if_T, if_F, on0_s, on1_s, on2_s, on3_s, on4_s, on5_s, on6_s, asL_l, asL_r, asT_t, asB_b, len_l, len_r, len_t, l_0, l_1, l_2, l_3, l_4, l_5, l_6, l_7, l_8, l_9, l_10, l_11, l_12, l_13, l_14, l_15, l_20, l_21, l_22, l_25, l_26, l_30, l_31, l_32, l_36, l_38, l_40, l_60, l_64, l_70, l_96, l_97, l_100, l_128, l_512, l_7919, int_n, int_i, int_bn, add_n, ix_ln, ix_rn, ix_tn, list_l, list_t, few0, few1, few2, few3, few5, lt_n, gt_n, le_n, eqF_n, neF_n, rng1_m, flT_nx, flT_rt, flF_nx, flE_rt, un2_t, un3_t, tru_l, tru_b, app_n, cap_n, flat_n, flat_bl, optI_n, sl_n, zero_add_]
  refine ok_bind (rowN_ok ns p 40 (by decide)) fun r ⟨xs, e, hl, hx⟩ => ?_
  subst e
  obtain ⟨x0, h0⟩ := row_get hl (i := 0) (by decide)
  obtain ⟨x31, h31⟩ := row_get hl (i := 31) (by decide)
  have f7 : ∀ {a b c d e f g : D}, few D.lst [a, b, c, d, e, f, g] = some (.lst [a, b, c, d, e, f, g]) := few_s (by show 7 ≤ 100000; decide)
  simp -implicitDefEqProofs only [Option.bind_some, Option.map_some, if_true_, if_ff, if_T, if_F, on0_s, on1_s, on2_s, on3_s, on4_s, on5_s, on6_s, asL_l, asL_r, asT_t, asB_b, len_l, len_r, len_t, l_0, l_1, l_2, l_3, l_4, l_5, l_6, l_7, l_8, l_9, l_10, l_11, l_12, l_13, l_14, l_15, l_20, l_21, l_22, l_25, l_26, l_30, l_31, l_32, l_36, l_38, l_40, l_60, l_64, l_70, l_96, l_97, l_100, l_128, l_512, l_7919, int_n, int_i, int_bn, add_n, ix_ln, ix_rn, ix_tn, list_l, list_t, few0, few1, few2, few3, few5, lt_n, gt_n, le_n, eqF_n, neF_n, rng1_m, flT_nx, flT_rt, flF_nx, flE_rt, un2_t, un3_t, tru_l, tru_b, app_n, cap_n, flat_n, flat_bl, optI_n, sl_n, zero_add_, dns_at h0, f7, mod_n (a := x0) (b := 7) (by decide)]
  have hn : ∃ n, [dn 1, dn 2, dn 3, dn 2, dn 3, dn 4, dn 5][x0 % 7]? = some (dn n) ∧ 1 ≤ n ∧ n ≤ 5 := by
    have : x0 % 7 < 7 := Nat.mod_lt _ (by decide)
    generalize x0 % 7 = k at this
    match k, this with
    | 0, _ => exact ⟨1, rfl, by decide, by decide⟩
    | 1, _ => exact ⟨2, rfl, by decide, by decide⟩
    | 2, _ => exact ⟨3, rfl, by decide, by decide⟩
    | 3, _ => exact ⟨2, rfl, by decide, by decide⟩
    | 4, _ => exact ⟨3, rfl, by decide, by decide⟩
    | 5, _ => exact ⟨4, rfl, by decide, by decide⟩
    | 6, _ => exact ⟨5, rfl, by decide, by decide⟩
  obtain ⟨n, en, n1, n5⟩ := hn
  rw [en]
  have rn : rngM n = some (dns (List.range n)) := rng_s (by omega)
  have cn : capM (dns (List.range n)) = some (dns (List.range n)) := capM_s (by rw [dns_len, List.length_range]; omega)
  simp -implicitDefEqProofs only [Option.bind_some, Option.map_some, if_true_, if_ff, if_T, if_F, on0_s, on1_s, on2_s, on3_s, on4_s, on5_s, on6_s, asL_l, asL_r, asT_t, asB_b, len_l, len_r, len_t, l_0, l_1, l_2, l_3, l_4, l_5, l_6, l_7, l_8, l_9, l_10, l_11, l_12, l_13, l_14, l_15, l_20, l_21, l_22, l_25, l_26, l_30, l_31, l_32, l_36, l_38, l_40, l_60, l_64, l_70, l_96, l_97, l_100, l_128, l_512, l_7919, int_n, int_i, int_bn, add_n, ix_ln, ix_rn, ix_tn, list_l, list_t, few0, few1, few2, few3, few5, lt_n, gt_n, le_n, eqF_n, neF_n, rng1_m, flT_nx, flT_rt, flF_nx, flE_rt, un2_t, un3_t, tru_l, tru_b, app_n, cap_n, flat_n, flat_bl, optI_n, sl_n, zero_add_, rn, cn, mod_n (b := 4) (by decide)]
  have rx : ∀ i, i < 40 → (dns xs)[i]? = some (dn (xs.getD i 0)) := fun i hi => by
    refine dns_at ?_
    rw [List.getD_eq_getElem?_getD, List.getElem?_eq_getElem (by omega)]; rfl
  have ec : compD (fun c_35 => Option.map some (((((((((dAdd (dn 1) c_35).bind fun t39 => dIx (dl xs) t39).bind fun x_5 => some [x_5]).bind (on1 dInt)).bind fun t42 => dMod t42 (dn 4)).bind fun t44 => dEqF t44 (dn 1)).bind fun x_5 => some [x_5]).bind (on1 dInt)).bind fun t49 => dAdd (dn 2) t49)) (dns (List.range n)) = some ((List.range n).map fun v => dn (2 + if xs.getD (1 + v) 0 % 4 = 1 then 1 else 0)) :=
    compD_dns _ fun v hv => by
      have hv := List.mem_range.mp hv
      simp -implicitDefEqProofs only [Option.bind_some, Option.map_some, if_true_, if_ff, if_T, if_F, on0_s, on1_s, on2_s, on3_s, on4_s, on5_s, on6_s, asL_l, asL_r, asT_t, asB_b, len_l, len_r, len_t, l_0, l_1, l_2, l_3, l_4, l_5, l_6, l_7, l_8, l_9, l_10, l_11, l_12, l_13, l_14, l_15, l_20, l_21, l_22, l_25, l_26, l_30, l_31, l_32, l_36, l_38, l_40, l_60, l_64, l_70, l_96, l_97, l_100, l_128, l_512, l_7919, int_n, int_i, int_bn, add_n, ix_ln, ix_rn, ix_tn, list_l, list_t, few0, few1, few2, few3, few5, lt_n, gt_n, le_n, eqF_n, neF_n, rng1_m, flT_nx, flT_rt, flF_nx, flE_rt, un2_t, un3_t, tru_l, tru_b, app_n, cap_n, flat_n, flat_bl, optI_n, sl_n, zero_add_, rx (1 + v) (by omega), mod_n (b := 4) (by decide)]
      simp only [decide_eq_true_eq]
  have ec2 : (List.range n).map (fun v => dn (2 + if xs.getD (1 + v) 0 % 4 = 1 then 1 else 0)) = dns ((List.range n).map fun v => 2 + if xs.getD (1 + v) 0 % 4 = 1 then 1 else 0) := by
    show _ = List.map dn _
    rw [List.map_map]; rfl
  rw [ec2] at ec
  rw [ec]
  have eh : ∀ F : D → Option (Option D), (∀ v, v < n → F (dn v) = some (some (dl ((List.range v).filter fun u => decide (0 < xs.getD (6 + 5 * v + u) 0 % 3))))) → compD F (dns (List.range n)) = some (((List.range n).map fun v => (List.range v).filter fun u => decide (0 < xs.getD (6 + 5 * v + u) 0 % 3)).map dl) := fun F hF => by
    rw [compD_dns (fun v => dl ((List.range v).filter fun u => decide (0 < xs.getD (6 + 5 * v + u) 0 % 3))) fun v hv => hF v (List.mem_range.mp hv), List.map_map]; rfl
  rw [eh _ fun v hv => by
    simp -implicitDefEqProofs only [Option.bind_some, Option.map_some, if_true_, if_ff, if_T, if_F, on0_s, on1_s, on2_s, on3_s, on4_s, on5_s, on6_s, asL_l, asL_r, asT_t, asB_b, len_l, len_r, len_t, l_0, l_1, l_2, l_3, l_4, l_5, l_6, l_7, l_8, l_9, l_10, l_11, l_12, l_13, l_14, l_15, l_20, l_21, l_22, l_25, l_26, l_30, l_31, l_32, l_36, l_38, l_40, l_60, l_64, l_70, l_96, l_97, l_100, l_128, l_512, l_7919, int_n, int_i, int_bn, add_n, ix_ln, ix_rn, ix_tn, list_l, list_t, few0, few1, few2, few3, few5, lt_n, gt_n, le_n, eqF_n, neF_n, rng1_m, flT_nx, flT_rt, flF_nx, flE_rt, un2_t, un3_t, tru_l, tru_b, app_n, cap_n, flat_n, flat_bl, optI_n, sl_n, zero_add_, rng_s (n := v) (by omega), capM_s (xs := dns (List.range v)) (by rw [dns_len, List.length_range]; omega)]
    have := compD_filter (k := fun c_54 => ((((((((dMul (dn 5) (dn v)).bind fun t58 => dAdd (dn 6) t58).bind fun t59 => dAdd t59 c_54).bind fun t39 => dIx (dl xs) t39).bind fun x_5 => some [x_5]).bind (on1 dInt)).bind fun t65 => dMod t65 (dn 3)).bind fun t67 => (dGt t67 (dn 0)).bind asB).bind fun b_70 => if b_70 = true then some (some c_54) else some none) dn dn (fun u => decide (0 < xs.getD (6 + 5 * v + u) 0 % 3)) (xs := List.range v) fun u hu => by
      have hu := List.mem_range.mp hu
      simp -implicitDefEqProofs only [Option.bind_some, Option.map_some, if_true_, if_ff, if_T, if_F, on0_s, on1_s, on2_s, on3_s, on4_s, on5_s, on6_s, asL_l, asL_r, asT_t, asB_b, len_l, len_r, len_t, l_0, l_1, l_2, l_3, l_4, l_5, l_6, l_7, l_8, l_9, l_10, l_11, l_12, l_13, l_14, l_15, l_20, l_21, l_22, l_25, l_26, l_30, l_31, l_32, l_36, l_38, l_40, l_60, l_64, l_70, l_96, l_97, l_100, l_128, l_512, l_7919, int_n, int_i, int_bn, add_n, ix_ln, ix_rn, ix_tn, list_l, list_t, few0, few1, few2, few3, few5, lt_n, gt_n, le_n, eqF_n, neF_n, rng1_m, flT_nx, flT_rt, flF_nx, flE_rt, un2_t, un3_t, tru_l, tru_b, app_n, cap_n, flat_n, flat_bl, optI_n, sl_n, zero_add_, mul_nl (a := 5) (by decide), rx (6 + 5 * v + u) (by omega), mod_n (b := 3) (by decide)]
      split <;> rfl
    rw [this]
    rfl]
  have r30 : rngM 30 = some (dns (List.range 30)) := rng_s (by decide)
  simp -implicitDefEqProofs only [Option.bind_some, Option.map_some, if_true_, if_ff, if_T, if_F, on0_s, on1_s, on2_s, on3_s, on4_s, on5_s, on6_s, asL_l, asL_r, asT_t, asB_b, len_l, len_r, len_t, l_0, l_1, l_2, l_3, l_4, l_5, l_6, l_7, l_8, l_9, l_10, l_11, l_12, l_13, l_14, l_15, l_20, l_21, l_22, l_25, l_26, l_30, l_31, l_32, l_36, l_38, l_40, l_60, l_64, l_70, l_96, l_97, l_100, l_128, l_512, l_7919, int_n, int_i, int_bn, add_n, ix_ln, ix_rn, ix_tn, list_l, list_t, few0, few1, few2, few3, few5, lt_n, gt_n, le_n, eqF_n, neF_n, rng1_m, flT_nx, flT_rt, flF_nx, flE_rt, un2_t, un3_t, tru_l, tru_b, app_n, cap_n, flat_n, flat_bl, optI_n, sl_n, zero_add_, r30, dns_at h31]
  generalize hcs : ((List.range n).map fun v => 2 + if xs.getD (1 + v) 0 % 4 = 1 then 1 else 0) = cs0
  generalize hhs : ((List.range n).map fun v => (List.range v).filter fun u => decide (0 < xs.getD (6 + 5 * v + u) 0 % 3)) = hs0
  have hvd : ∀ v, v < n → hv hs0 v = (List.range v).filter fun u => decide (0 < xs.getD (6 + 5 * v + u) 0 % 3) := fun v hv1 => by
    rw [← hhs]; unfold hv
    rw [List.getD_eq_getElem?_getD, List.getElem?_map, List.getElem?_range hv1]; rfl
  have cl0 : cs0.length = n := by rw [← hcs, List.length_map, List.length_range]
  have hl0 : hs0.length = n := by rw [← hhs, List.length_map, List.length_range]
  have s0 : Shp cs0 hs0 := by
    refine ⟨by omega, by omega, by omega, fun c hc => ?_, fun h hh => ?_, fun v u hu => ?_⟩
    · rw [← hcs] at hc
      obtain ⟨v, _, rfl⟩ := List.mem_map.mp hc
      split <;> simp
    · rw [← hhs] at hh
      obtain ⟨v, _, rfl⟩ := List.mem_map.mp hh
      exact (List.pairwise_lt_range).filter _
    · by_cases hv1 : v < n
      · rw [hvd v hv1] at hu
        exact List.mem_range.mp (List.mem_filter.mp hu).1
      · unfold hv at hu
        rw [List.getD_eq_getElem?_getD, List.getElem?_eq_none (by omega)] at hu
        cases hu
  refine ok_bind (P := fun b : D × D => ∃ cs hs, b = (dll hs, dl cs) ∧ Shp cs hs ∧ wayN cs hs ≤ cap) ?_ fun b ⟨cs, hs, e, s, hw⟩ => ok_some ⟨cs, hs, by rw [e], s, hw⟩
  have P0 : ∀ v, v < n → pot cs0 hs0 v ≤ v + 1 - visN n x31 0 v := fun v hv1 => by
    unfold pot
    have := s0.hlen (v := v) (by omega)
    have e0 : visN n x31 0 v = 0 := rfl
    rw [e0]
    split <;> omega
  refine forS_ok (fun t b => ∃ cs hs, b = (dll hs, dl cs) ∧ Shp cs hs ∧ cs.length = n ∧ (wayN cs hs ≤ cap ∨ ∀ v, v < n → pot cs hs v ≤ v + 1 - visN n x31 t v)) ⟨cs0, hs0, rfl, s0, cl0, .inr P0⟩ (fun t x b hx hb => ?_) (fun b hb => ?_)
  · obtain ⟨cs, hs, rfl, s, hc, hp⟩ := hb
    have ht : t < 30 := by have := (List.getElem?_eq_some_iff.mp hx).1; rwa [dns_len, List.length_range] at this
    rw [dns_at (List.getElem?_range ht)] at hx
    cases hx
    simp -implicitDefEqProofs only [Option.bind_some, Option.map_some, if_true_, if_ff, if_T, if_F, on0_s, on1_s, on2_s, on3_s, on4_s, on5_s, on6_s, asL_l, asL_r, asT_t, asB_b, len_l, len_r, len_t, l_0, l_1, l_2, l_3, l_4, l_5, l_6, l_7, l_8, l_9, l_10, l_11, l_12, l_13, l_14, l_15, l_20, l_21, l_22, l_25, l_26, l_30, l_31, l_32, l_36, l_38, l_40, l_60, l_64, l_70, l_96, l_97, l_100, l_128, l_512, l_7919, int_n, int_i, int_bn, add_n, ix_ln, ix_rn, ix_tn, list_l, list_t, few0, few1, few2, few3, few5, lt_n, gt_n, le_n, eqF_n, neF_n, rng1_m, flT_nx, flT_rt, flF_nx, flE_rt, un2_t, un3_t, tru_l, tru_b, app_n, cap_n, flat_n, flat_bl, optI_n, sl_n, zero_add_, mod_n (b := n) (by omega), s.count]
    have hvn : (x31 + t) % n < n := Nat.mod_lt _ (by omega)
    generalize hvv : (x31 + t) % n = v at hvn
    by_cases hcnt : cap < wayN cs hs
    · have hp := hp.resolve_left (by omega)
      have e1 : hs[v]? = some (hv hs v) := hv_get (by rw [s.len]; omega)
      have e32 : (dns xs)[32 + v]? = some (dn (xs.getD (32 + v) 0)) := rx _ (by omega)
      have hlen := s.hlen (v := v) (by omega)
      simp -implicitDefEqProofs only [decide_eq_true hcnt]
      simp -implicitDefEqProofs only [Option.bind_some, Option.map_some, if_true_, if_ff, if_T, if_F, on0_s, on1_s, on2_s, on3_s, on4_s, on5_s, on6_s, asL_l, asL_r, asT_t, asB_b, len_l, len_r, len_t, l_0, l_1, l_2, l_3, l_4, l_5, l_6, l_7, l_8, l_9, l_10, l_11, l_12, l_13, l_14, l_15, l_20, l_21, l_22, l_25, l_26, l_30, l_31, l_32, l_36, l_38, l_40, l_60, l_64, l_70, l_96, l_97, l_100, l_128, l_512, l_7919, int_n, int_i, int_bn, add_n, ix_ln, ix_rn, ix_tn, list_l, list_t, few0, few1, few2, few3, few5, lt_n, gt_n, le_n, eqF_n, neF_n, rng1_m, flT_nx, flT_rt, flF_nx, flE_rt, un2_t, un3_t, tru_l, tru_b, app_n, cap_n, flat_n, flat_bl, optI_n, sl_n, zero_add_, dll_at e1, e32]
      by_cases hem : hv hs v = []
      · rw [show (dns (hv hs v)).isEmpty = true by rw [hem]; rfl]
        simp -implicitDefEqProofs only [Option.bind_some, Option.map_some, if_true_, if_ff, if_T, if_F, on0_s, on1_s, on2_s, on3_s, on4_s, on5_s, on6_s, asL_l, asL_r, asT_t, asB_b, len_l, len_r, len_t, l_0, l_1, l_2, l_3, l_4, l_5, l_6, l_7, l_8, l_9, l_10, l_11, l_12, l_13, l_14, l_15, l_20, l_21, l_22, l_25, l_26, l_30, l_31, l_32, l_36, l_38, l_40, l_60, l_64, l_70, l_96, l_97, l_100, l_128, l_512, l_7919, int_n, int_i, int_bn, add_n, ix_ln, ix_rn, ix_tn, list_l, list_t, few0, few1, few2, few3, few5, lt_n, gt_n, le_n, eqF_n, neF_n, rng1_m, flT_nx, flT_rt, flF_nx, flE_rt, un2_t, un3_t, tru_l, tru_b, app_n, cap_n, flat_n, flat_bl, optI_n, sl_n, zero_add_, Bool.not_true]
        rw [set_n (by omega)]
        simp -implicitDefEqProofs only [Option.bind_some, Option.map_some, if_true_, if_ff, if_T, if_F, on0_s, on1_s, on2_s, on3_s, on4_s, on5_s, on6_s, asL_l, asL_r, asT_t, asB_b, len_l, len_r, len_t, l_0, l_1, l_2, l_3, l_4, l_5, l_6, l_7, l_8, l_9, l_10, l_11, l_12, l_13, l_14, l_15, l_20, l_21, l_22, l_25, l_26, l_30, l_31, l_32, l_36, l_38, l_40, l_60, l_64, l_70, l_96, l_97, l_100, l_128, l_512, l_7919, int_n, int_i, int_bn, add_n, ix_ln, ix_rn, ix_tn, list_l, list_t, few0, few1, few2, few3, few5, lt_n, gt_n, le_n, eqF_n, neF_n, rng1_m, flT_nx, flT_rt, flF_nx, flE_rt, un2_t, un3_t, tru_l, tru_b, app_n, cap_n, flat_n, flat_bl, optI_n, sl_n, zero_add_]
        refine ok_some ⟨cs.set v 2, hs, rfl, s.setC, by rw [List.length_set]; exact hc, .inr fun u hu => ?_⟩
        have h1 := hp u hu
        have h2 := vis_succ n x31 t u
        unfold pot at h1 ⊢
        rw [ct_set (by omega)]
        rw [hvv] at h2
        by_cases e : u = v
        · subst e
          rw [if_pos rfl, hem]
          simp
        · rw [if_neg e]
          rw [if_neg (fun z => e z.symm)] at h2
          omega
      · have hne : (hv hs v).length ≠ 0 := fun z => hem (List.length_eq_zero_iff.mp z)
        rw [show (dns (hv hs v)).isEmpty = false by cases h : hv hs v with | nil => exact absurd h hem | cons a l => rfl]
        simp -implicitDefEqProofs only [Option.bind_some, Option.map_some, if_true_, if_ff, if_T, if_F, on0_s, on1_s, on2_s, on3_s, on4_s, on5_s, on6_s, asL_l, asL_r, asT_t, asB_b, len_l, len_r, len_t, l_0, l_1, l_2, l_3, l_4, l_5, l_6, l_7, l_8, l_9, l_10, l_11, l_12, l_13, l_14, l_15, l_20, l_21, l_22, l_25, l_26, l_30, l_31, l_32, l_36, l_38, l_40, l_60, l_64, l_70, l_96, l_97, l_100, l_128, l_512, l_7919, int_n, int_i, int_bn, add_n, ix_ln, ix_rn, ix_tn, list_l, list_t, few0, few1, few2, few3, few5, lt_n, gt_n, le_n, eqF_n, neF_n, rng1_m, flT_nx, flT_rt, flF_nx, flE_rt, un2_t, un3_t, tru_l, tru_b, app_n, cap_n, flat_n, flat_bl, optI_n, sl_n, zero_add_, Bool.not_false, dns_len, mod_n (b := (hv hs v).length) (by omega), pop2_n e1 (j := xs.getD (32 + v) 0 % (hv hs v).length) (Nat.mod_lt _ (by omega)) (by omega)]
        refine ok_some ⟨cs, hs.set v ((hv hs v).eraseIdx (xs.getD (32 + v) 0 % (hv hs v).length)), rfl, s.setH (by rw [s.len]; omega), hc, .inr fun u hu => ?_⟩
        have h1 := hp u hu
        have h2 := vis_succ n x31 t u
        unfold pot at h1 ⊢
        rw [hv_set (by rw [s.len]; omega)]
        rw [hvv] at h2
        by_cases e : u = v
        · subst e
          rw [if_pos rfl, List.length_eraseIdx_of_lt (Nat.mod_lt _ (by omega))]
          rw [if_pos rfl] at h2
          omega
        · rw [if_neg e]
          rw [if_neg (fun z => e z.symm)] at h2
          omega
    · simp -implicitDefEqProofs only [decide_eq_false hcnt]
      simp -implicitDefEqProofs only [Option.bind_some, Option.map_some, if_true_, if_ff, if_T, if_F, on0_s, on1_s, on2_s, on3_s, on4_s, on5_s, on6_s, asL_l, asL_r, asT_t, asB_b, len_l, len_r, len_t, l_0, l_1, l_2, l_3, l_4, l_5, l_6, l_7, l_8, l_9, l_10, l_11, l_12, l_13, l_14, l_15, l_20, l_21, l_22, l_25, l_26, l_30, l_31, l_32, l_36, l_38, l_40, l_60, l_64, l_70, l_96, l_97, l_100, l_128, l_512, l_7919, int_n, int_i, int_bn, add_n, ix_ln, ix_rn, ix_tn, list_l, list_t, few0, few1, few2, few3, few5, lt_n, gt_n, le_n, eqF_n, neF_n, rng1_m, flT_nx, flT_rt, flF_nx, flE_rt, un2_t, un3_t, tru_l, tru_b, app_n, cap_n, flat_n, flat_bl, optI_n, sl_n, zero_add_, Bool.false_eq_true]
      exact ok_some ⟨cs, hs, rfl, s, hc, .inl (by omega)⟩
  · obtain ⟨cs, hs, rfl, s, hc, hp⟩ := hb
    refine ⟨cs, hs, rfl, s, ?_⟩
    rcases hp with h | h
    · exact h
    · refine Nat.le_trans (s.least fun v hv1 => ?_) hcap
      have h1 := h v (by omega)
      rw [dns_len, List.length_range, vis_mod] at h1
      have h2 := vis_all n (by omega) (x31 % n) (Nat.mod_lt _ (by omega)) v (by omega)
      omega
end Oh
namespace Oh
open PySem L2 TL
/-! ### drawn names -/
noncomputable def az : List Nat := Wd "abcdefghijklmnopqrstuvwxyz"
noncomputable def dg : List Nat := Wd "0123456789"
noncomputable def an : List Nat := az ++ dg
noncomputable def kept : List (List Nat) := [Wd "house", Wd "variable", Wd "says", Wd "hears", Wd "end", Wd "if", Wd "and", Wd "ignores", Wd "rises", Wd "falls", Wd "with", Wd "never", Wd "when"]
theorem az_len : az.length = 26 := by decide +kernel
theorem an_len : an.length = 36 := by decide +kernel
theorem az_nd : az.Nodup := by decide +kernel
theorem kept_ok : m_law_kept = some (ssD kept) := by
  unfold m_law_kept
  simp -implicitDefEqProofs only [Option.bind_some, Option.map_some, if_true_, if_ff, if_T, if_F, on0_s, on1_s, on2_s, on3_s, on4_s, on5_s, on6_s, asL_l, asL_r, asT_t, asB_b, len_l, len_r, len_t, l_0, l_1, l_2, l_3, l_4, l_5, l_6, l_7, l_8, l_9, l_10, l_11, l_12, l_13, l_14, l_15, l_20, l_21, l_22, l_25, l_26, l_30, l_31, l_32, l_36, l_38, l_40, l_60, l_64, l_70, l_96, l_97, l_100, l_128, l_512, l_7919, int_n, int_i, int_bn, add_n, ix_ln, ix_rn, ix_tn, list_l, list_t, few0, few1, few2, few3, few5, lt_n, gt_n, le_n, eqF_n, neF_n, rng1_m, flT_nx, flT_rt, flF_nx, flE_rt, un2_t, un3_t, tru_l, tru_b, app_n, cap_n, flat_n, flat_bl, optI_n, sl_n, zero_add_, lit_s]
  exact few_s (by show 13 ≤ 100000; decide)
structure NameOk (s : List Nat) : Prop where
  ne : s ≠ []
  len : s.length ≤ 12
  hd : s.headD 0 ∈ az
  all : ∀ c ∈ s, c ∈ an
  nk : s ∉ kept
noncomputable def azA (i : Nat) : Nat := az.getD (i % 26) 0
noncomputable def anA (i : Nat) : Nat := an.getD (i % 36) 0
theorem az_at (i : Nat) : az[i % 26]? = some (azA i) := by
  have : i % 26 < az.length := by rw [az_len]; exact Nat.mod_lt _ (by decide)
  unfold azA
  rw [List.getD_eq_getElem?_getD, List.getElem?_eq_getElem this]; rfl
theorem an_at (i : Nat) : an[i % 36]? = some (anA i) := by
  have : i % 36 < an.length := by rw [an_len]; exact Nat.mod_lt _ (by decide)
  unfold anA
  rw [List.getD_eq_getElem?_getD, List.getElem?_eq_getElem this]; rfl
theorem azA_mem (i : Nat) : azA i ∈ az := List.mem_of_getElem? (az_at i)
theorem anA_mem (i : Nat) : anA i ∈ an := List.mem_of_getElem? (an_at i)
noncomputable def bstep (xs : List Nat) (s : List Nat) (i : Nat) : List Nat := if i = 0 then [azA (xs.getD 3 0)] else s ++ [anA (xs.getD (3 + i) 0)]
noncomputable def baseN (xs : List Nat) (n : Nat) : List Nat := (List.range n).foldl (bstep xs) []
theorem base_succ (xs : List Nat) (n : Nat) : baseN xs (n + 1) = bstep xs (baseN xs n) n := by
  unfold baseN
  rw [List.range_succ, List.foldl_append]; rfl
theorem base_ok (xs : List Nat) : ∀ n, (baseN xs n).length = n ∧ (∀ c ∈ baseN xs n, c ∈ an) ∧ (0 < n → (baseN xs n).headD 0 ∈ az)
  | 0 => ⟨rfl, (fun _ h => nomatch h), fun h => absurd h (by decide)⟩
  | n + 1 => by
    obtain ⟨h1, h2, h3⟩ := base_ok xs n
    rw [base_succ]
    unfold bstep
    by_cases e : n = 0
    · subst e
      rw [if_pos rfl]
      exact ⟨rfl, fun c hc => by rw [List.mem_singleton.mp hc]; exact List.mem_append_left _ (azA_mem _), fun _ => azA_mem _⟩
    · rw [if_neg e]
      refine ⟨by rw [List.length_append, h1]; rfl, fun c hc => ?_, fun _ => ?_⟩
      · rcases List.mem_append.mp hc with z | z
        · exact h2 c z
        · rw [List.mem_singleton.mp z]; exact anA_mem _
      · have := h3 (by omega)
        cases hb : baseN xs n with
        | nil => rw [hb] at h1; exact absurd h1.symm e
        | cons a l => rw [hb] at this; exact this
noncomputable def sizeN (xs : List Nat) (k : Nat) : Nat := if xs.getD 0 0 / 12 % 2 = 0 then xs.getD 0 0 % 12 else xs.getD 0 0 % 12 - k
noncomputable def atN (xs : List Nat) (k : Nat) : Nat := if xs.getD 0 0 / 12 % 2 = 0 then xs.getD 1 0 % (sizeN xs k + 1) else 0
noncomputable def rawN (xs : List Nat) (k : Nat) : List Nat := (baseN xs (sizeN xs k)).take (atN xs k) ++ [azA (xs.getD 2 0 + k)] ++ (baseN xs (sizeN xs k)).drop (atN xs k)
noncomputable def nameN (xs : List Nat) (k : Nat) : List Nat := if rawN xs k ∈ kept then rawN xs k ++ Wd "x" else rawN xs k
theorem max_sub {a b : Nat} : ((((dSub (dn a) (dn b)).bind fun x_8 => some [x_8]).bind fun xs_32 => some (dn 0 :: xs_32)).bind (on2 dMax2)) = some (dn (a - b)) := by
  show some (D.int (if ((a : Int) - (b : Int)) > 0 then ((a : Int) - (b : Int)) else 0)) = some (D.int ((a - b : Nat) : Int))
  congr 2
  split <;> omega
theorem name_ok {xs : List Nat} {k : Nat} (hl : 14 ≤ xs.length) : m_law_name (dl xs) (dn k) = some (sD (nameN xs k)) := by
  have rx : ∀ i, i < 14 → (dns xs)[i]? = some (dn (xs.getD i 0)) := fun i hi => by
    refine dns_at ?_
    rw [List.getD_eq_getElem?_getD, List.getElem?_eq_getElem (by omega)]; rfl
  unfold m_law_name
  simp -implicitDefEqProofs only [Option.bind_some, Option.map_some, if_true_, if_ff, if_T, if_F, on0_s, on1_s, on2_s, on3_s, on4_s, on5_s, on6_s, asL_l, asL_r, asT_t, asB_b, len_l, len_r, len_t, l_0, l_1, l_2, l_3, l_4, l_5, l_6, l_7, l_8, l_9, l_10, l_11, l_12, l_13, l_14, l_15, l_20, l_21, l_22, l_25, l_26, l_30, l_31, l_32, l_36, l_38, l_40, l_60, l_64, l_70, l_96, l_97, l_100, l_128, l_512, l_7919, int_n, int_i, int_bn, add_n, ix_ln, ix_rn, ix_tn, list_l, list_t, few0, few1, few2, few3, few5, lt_n, gt_n, le_n, eqF_n, neF_n, rng1_m, flT_nx, flT_rt, flF_nx, flE_rt, un2_t, un3_t, tru_l, tru_b, app_n, cap_n, flat_n, flat_bl, optI_n, sl_n, zero_add_, lit_s, rx 0 (by decide), rx 1 (by decide), rx 2 (by decide), rx 3 (by decide), mod_n (b := 12) (by decide), div_n (b := 12) (by decide) (by decide), mod_n (b := 2) (by decide), mod_n (b := 26) (by decide)]
  have azE : sD (Wd "abcdefghijklmnopqrstuvwxyz") = sD az := rfl
  have dgE : sD (Wd "0123456789") = sD dg := rfl
  rw [azE, dgE]
  have sz : (if (!decide (xs.getD 0 0 / 12 % 2 = 0)) = true then (((((dSub (dn (xs.getD 0 0 % 12)) (dn k)).bind fun x_8 => some [x_8]).bind fun xs_32 => some (dn 0 :: xs_32)).bind (on2 dMax2)).bind fun size_v_26 => some size_v_26) else some (dn (xs.getD 0 0 % 12))) = some (dn (sizeN xs k)) := by
    rw [max_sub]
    unfold sizeN
    by_cases h : xs.getD 0 0 / 12 % 2 = 0
    · rw [if_pos h, decide_eq_true h]; rfl
    · rw [if_neg h, decide_eq_false h]; rfl
  refine (bind_of sz).trans ?_
  have s12 : sizeN xs k ≤ 11 := by
    have : xs.getD 0 0 % 12 < 12 := Nat.mod_lt _ (by decide)
    unfold sizeN
    split <;> omega
  have azL : az.length ≤ 100000 := by rw [az_len]; decide
  have anE : dAdd (sD az) (sD dg) = some (sD an) := add_s (by rw [az_len]; decide +kernel)
  simp -implicitDefEqProofs only [Option.bind_some, Option.map_some, if_true_, if_ff, if_T, if_F, on0_s, on1_s, on2_s, on3_s, on4_s, on5_s, on6_s, asL_l, asL_r, asT_t, asB_b, len_l, len_r, len_t, l_0, l_1, l_2, l_3, l_4, l_5, l_6, l_7, l_8, l_9, l_10, l_11, l_12, l_13, l_14, l_15, l_20, l_21, l_22, l_25, l_26, l_30, l_31, l_32, l_36, l_38, l_40, l_60, l_64, l_70, l_96, l_97, l_100, l_128, l_512, l_7919, int_n, int_i, int_bn, add_n, ix_ln, ix_rn, ix_tn, list_l, list_t, few0, few1, few2, few3, few5, lt_n, gt_n, le_n, eqF_n, neF_n, rng1_m, flT_nx, flT_rt, flF_nx, flE_rt, un2_t, un3_t, tru_l, tru_b, app_n, cap_n, flat_n, flat_bl, optI_n, sl_n, zero_add_, rng_s (n := sizeN xs k) (by omega)]
  refine (bind_of (forS_dns (s := []) sD (bstep xs) (fun i s => s.length = i) rfl (fun i s hi hs => ⟨?_, ?_⟩)).1).trans ?_
  · unfold bstep
    simp -implicitDefEqProofs only [Option.bind_some, Option.map_some, if_true_, if_ff, if_T, if_F, on0_s, on1_s, on2_s, on3_s, on4_s, on5_s, on6_s, asL_l, asL_r, asT_t, asB_b, len_l, len_r, len_t, l_0, l_1, l_2, l_3, l_4, l_5, l_6, l_7, l_8, l_9, l_10, l_11, l_12, l_13, l_14, l_15, l_20, l_21, l_22, l_25, l_26, l_30, l_31, l_32, l_36, l_38, l_40, l_60, l_64, l_70, l_96, l_97, l_100, l_128, l_512, l_7919, int_n, int_i, int_bn, add_n, ix_ln, ix_rn, ix_tn, list_l, list_t, few0, few1, few2, few3, few5, lt_n, gt_n, le_n, eqF_n, neF_n, rng1_m, flT_nx, flT_rt, flF_nx, flE_rt, un2_t, un3_t, tru_l, tru_b, app_n, cap_n, flat_n, flat_bl, optI_n, sl_n, zero_add_]
    by_cases e : i = 0
    · subst e
      simp -implicitDefEqProofs only [Option.bind_some, Option.map_some, if_true_, if_ff, if_T, if_F, on0_s, on1_s, on2_s, on3_s, on4_s, on5_s, on6_s, asL_l, asL_r, asT_t, asB_b, len_l, len_r, len_t, l_0, l_1, l_2, l_3, l_4, l_5, l_6, l_7, l_8, l_9, l_10, l_11, l_12, l_13, l_14, l_15, l_20, l_21, l_22, l_25, l_26, l_30, l_31, l_32, l_36, l_38, l_40, l_60, l_64, l_70, l_96, l_97, l_100, l_128, l_512, l_7919, int_n, int_i, int_bn, add_n, ix_ln, ix_rn, ix_tn, list_l, list_t, few0, few1, few2, few3, few5, lt_n, gt_n, le_n, eqF_n, neF_n, rng1_m, flT_nx, flT_rt, flF_nx, flE_rt, un2_t, un3_t, tru_l, tru_b, app_n, cap_n, flat_n, flat_bl, optI_n, sl_n, zero_add_, decide_eq_true, ix_s azL, az_at]
    · rw [decide_eq_false e, if_neg e]
      have r3 := rx (3 + i) (by omega)
      simp -implicitDefEqProofs only [Option.bind_some, Option.map_some, if_true_, if_ff, if_T, if_F, on0_s, on1_s, on2_s, on3_s, on4_s, on5_s, on6_s, asL_l, asL_r, asT_t, asB_b, len_l, len_r, len_t, l_0, l_1, l_2, l_3, l_4, l_5, l_6, l_7, l_8, l_9, l_10, l_11, l_12, l_13, l_14, l_15, l_20, l_21, l_22, l_25, l_26, l_30, l_31, l_32, l_36, l_38, l_40, l_60, l_64, l_70, l_96, l_97, l_100, l_128, l_512, l_7919, int_n, int_i, int_bn, add_n, ix_ln, ix_rn, ix_tn, list_l, list_t, few0, few1, few2, few3, few5, lt_n, gt_n, le_n, eqF_n, neF_n, rng1_m, flT_nx, flT_rt, flF_nx, flE_rt, un2_t, un3_t, tru_l, tru_b, app_n, cap_n, flat_n, flat_bl, optI_n, sl_n, zero_add_, anE, r3, mod_n (b := 36) (by decide), ix_s (l := an) (by rw [an_len]; decide), an_at]
      rw [add_s (a := s) (b := [anA (xs.getD (3 + i) 0)]) (by rw [hs]; show i + 1 ≤ 100000; omega)]; rfl
  · unfold bstep
    by_cases e : i = 0
    · subst e; rw [if_pos rfl]; rfl
    · rw [if_neg e, List.length_append, hs]; rfl
  show _ = some (sD (nameN xs k))
  have bE : (List.range (sizeN xs k)).foldl (bstep xs) [] = baseN xs (sizeN xs k) := rfl
  rw [bE]
  obtain ⟨bl, _, _⟩ := base_ok xs (sizeN xs k)
  have at_ : (dMod (D.int ((xs.getD 1 0 : Nat) : Int)) (dn (sizeN xs k + 1))) = some (dn (xs.getD 1 0 % (sizeN xs k + 1))) := mod_n (a := xs.getD 1 0) (b := sizeN xs k + 1) (Nat.succ_pos _)
  refine (bind_of at_).trans ?_
  have at2 : (if (!decide (xs.getD 0 0 / 12 % 2 = 0)) = true then some (dn 0) else some (dn (xs.getD 1 0 % (sizeN xs k + 1)))) = some (dn (atN xs k)) := by
    unfold atN
    by_cases h : xs.getD 0 0 / 12 % 2 = 0
    · rw [if_pos h, decide_eq_true h]; rfl
    · rw [if_neg h, decide_eq_false h]; rfl
  refine (bind_of at2).trans ?_
  have l1 : (baseN xs (sizeN xs k)).length ≤ 100000 := by rw [bl]; omega
  have t1 : ((baseN xs (sizeN xs k)).take (atN xs k)).length ≤ 11 := by rw [List.length_take, bl]; omega
  have t2 : ((baseN xs (sizeN xs k)).drop (atN xs k)).length ≤ 11 := by rw [List.length_drop, bl]; omega
  simp -implicitDefEqProofs only [Option.bind_some, Option.map_some, if_true_, if_ff, if_T, if_F, on0_s, on1_s, on2_s, on3_s, on4_s, on5_s, on6_s, asL_l, asL_r, asT_t, asB_b, len_l, len_r, len_t, l_0, l_1, l_2, l_3, l_4, l_5, l_6, l_7, l_8, l_9, l_10, l_11, l_12, l_13, l_14, l_15, l_20, l_21, l_22, l_25, l_26, l_30, l_31, l_32, l_36, l_38, l_40, l_60, l_64, l_70, l_96, l_97, l_100, l_128, l_512, l_7919, int_n, int_i, int_bn, add_n, ix_ln, ix_rn, ix_tn, list_l, list_t, few0, few1, few2, few3, few5, lt_n, gt_n, le_n, eqF_n, neF_n, rng1_m, flT_nx, flT_rt, flF_nx, flE_rt, un2_t, un3_t, tru_l, tru_b, app_n, cap_n, flat_n, flat_bl, optI_n, sl_n, zero_add_, slS_to l1, slS_from l1, ix_s azL, az_at, add_s (a := (baseN xs (sizeN xs k)).take (atN xs k)) (b := [azA (xs.getD 2 0 + k)]) (by show _ + 1 ≤ 100000; omega), add_s (a := (baseN xs (sizeN xs k)).take (atN xs k) ++ [azA (xs.getD 2 0 + k)]) (b := (baseN xs (sizeN xs k)).drop (atN xs k)) (by rw [List.length_append]; show _ + 1 + _ ≤ 100000; omega), kept_ok, mem_s]
  show (if decide (rawN xs k ∈ kept) = true then (dAdd (sD (rawN xs k)) (sD (Wd "x"))).bind fun z => some z else some (sD (rawN xs k))).bind (fun z => some z) = _
  have rl : (rawN xs k).length ≤ 23 := by
    unfold rawN
    rw [List.length_append, List.length_append]
    show _ + 1 + _ ≤ 23
    omega
  unfold nameN
  by_cases h : rawN xs k ∈ kept
  · rw [if_pos h, if_pos (decide_eq_true h), add_s (by show _ + 1 ≤ 100000; omega)]; rfl
  · rw [if_neg h, if_neg (by rw [decide_eq_false h]; decide)]; rfl
/-! names are good, and differ -/
theorem kept_len : ∀ w ∈ kept, w.length ≤ 8 := by decide +kernel
theorem kept_x : ∀ w ∈ kept, w ++ Wd "x" ∉ kept := by decide +kernel
theorem az_an {c : Nat} (h : c ∈ az) : c ∈ an := List.mem_append_left _ h
theorem x_an : ∀ c ∈ Wd "x", c ∈ an := by decide +kernel
theorem raw_len {xs : List Nat} {k : Nat} : (rawN xs k).length = sizeN xs k + 1 := by
  obtain ⟨bl, _, _⟩ := base_ok xs (sizeN xs k)
  have : atN xs k ≤ sizeN xs k := by
    unfold atN
    split
    · exact Nat.lt_succ_iff.mp (Nat.mod_lt _ (Nat.succ_pos _))
    · exact Nat.zero_le _
  unfold rawN
  rw [List.length_append, List.length_append, List.length_take, List.length_drop, bl]
  show min _ _ + 1 + _ = _
  omega
theorem size_le {xs : List Nat} {k : Nat} : sizeN xs k ≤ 11 := by
  have : xs.getD 0 0 % 12 < 12 := Nat.mod_lt _ (by decide)
  unfold sizeN
  split <;> omega
theorem raw_all {xs : List Nat} {k : Nat} : ∀ c ∈ rawN xs k, c ∈ an := fun c hc => by
  obtain ⟨_, h2, _⟩ := base_ok xs (sizeN xs k)
  unfold rawN at hc
  rcases List.mem_append.mp hc with z | z
  · rcases List.mem_append.mp z with y | y
    · exact h2 c (List.mem_of_mem_take y)
    · rw [List.mem_singleton.mp y]; exact az_an (azA_mem _)
  · exact h2 c (List.mem_of_mem_drop z)
theorem raw_hd {xs : List Nat} {k : Nat} : (rawN xs k).headD 0 ∈ az := by
  obtain ⟨bl, _, h3⟩ := base_ok xs (sizeN xs k)
  unfold rawN
  by_cases e : atN xs k = 0
  · rw [e, List.take_zero, List.nil_append]; exact azA_mem _
  · cases hb : baseN xs (sizeN xs k) with
    | nil => rw [List.take_nil, List.nil_append]; exact azA_mem _
    | cons a l =>
      have : (baseN xs (sizeN xs k)).headD 0 ∈ az := h3 (by rw [← bl, hb]; exact Nat.succ_pos _)
      rw [hb] at this
      obtain ⟨m, hm⟩ : ∃ m, atN xs k = m + 1 := ⟨atN xs k - 1, by omega⟩
      rw [hm, List.take_succ_cons]
      exact this
theorem nameOk (xs : List Nat) (k : Nat) : NameOk (nameN xs k) := by
  have hl := raw_len (xs := xs) (k := k)
  have hs := size_le (xs := xs) (k := k)
  have hn : rawN xs k ≠ [] := fun e => by rw [e] at hl; cases hl
  unfold nameN
  by_cases h : rawN xs k ∈ kept
  · rw [if_pos h]
    refine ⟨by simp [hn], by have := kept_len _ h; rw [List.length_append]; show _ + 1 ≤ 12; omega, ?_, fun c hc => ?_, kept_x _ h⟩
    · cases e : rawN xs k with
      | nil => exact absurd e hn
      | cons a l => have := raw_hd (xs := xs) (k := k); rw [e] at this; exact this
    · rcases List.mem_append.mp hc with z | z
      · exact raw_all c z
      · exact x_an c z
  · rw [if_neg h]
    exact ⟨hn, by omega, raw_hd, raw_all, h⟩
theorem azA_inj {i j m : Nat} (hi : i < 26) (hj : j < 26) (h : azA (m + i) = azA (m + j)) : i = j := by
  have h1 : (m + i) % 26 < az.length := by rw [az_len]; exact Nat.mod_lt _ (by decide)
  have h2 : (m + j) % 26 < az.length := by rw [az_len]; exact Nat.mod_lt _ (by decide)
  have e1 := az_at (m + i)
  have e2 := az_at (m + j)
  rw [List.getElem?_eq_getElem h1] at e1
  rw [List.getElem?_eq_getElem h2] at e2
  have e3 : az[(m + i) % 26] = az[(m + j) % 26] := by
    have := Option.some.inj e1
    have := Option.some.inj e2
    omega
  have := (List.getElem_inj (h₀ := h1) (h₁ := h2) az_nd).mp e3
  omega
theorem name_at {xs : List Nat} {k : Nat} : (nameN xs k)[atN xs k]? = some (azA (xs.getD 2 0 + k)) := by
  obtain ⟨bl, _, _⟩ := base_ok xs (sizeN xs k)
  have ha : atN xs k ≤ sizeN xs k := by
    unfold atN
    split
    · exact Nat.lt_succ_iff.mp (Nat.mod_lt _ (Nat.succ_pos _))
    · exact Nat.zero_le _
  have hr : (rawN xs k)[atN xs k]? = some (azA (xs.getD 2 0 + k)) := by
    unfold rawN
    have hl : ((baseN xs (sizeN xs k)).take (atN xs k)).length = atN xs k := by rw [List.length_take, bl]; omega
    rw [List.append_assoc, List.getElem?_append_right (by rw [hl]; exact Nat.le_refl _), hl, Nat.sub_self]; rfl
  unfold nameN
  split
  · rw [List.getElem?_append_left (by rw [raw_len]; omega)]; exact hr
  · exact hr
theorem name_inj {xs : List Nat} {i j : Nat} (hi : i < 26) (hj : j < 26) (h : nameN xs i = nameN xs j) : i = j := by
  have e : atN xs i = atN xs j := by
    unfold atN sizeN
    by_cases al : xs.getD 0 0 / 12 % 2 = 0
    · rw [if_pos al, if_pos al, if_pos al, if_pos al]
    · rw [if_neg al, if_neg al]
  have h1 := name_at (xs := xs) (k := i)
  have h2 := name_at (xs := xs) (k := j)
  rw [h, e, h2] at h1
  exact azA_inj hi hj (Option.some.inj h1).symm
end Oh
namespace Oh
open PySem L2 TL
theorem cutD_to (xs : List D) (k : Nat) : cutD xs none (some (k : Int)) = xs.take k := by
  unfold cutD
  rw [HT.sIx_none, HT.sIx_nat, List.drop_zero, Nat.sub_zero]
  by_cases h : k ≤ xs.length
  · rw [Nat.min_eq_left h]
  · rw [Nat.min_eq_right (by omega), List.take_length, List.take_of_length_le (by omega)]
theorem cutD_from (xs : List D) (k : Nat) : cutD xs (some (k : Int)) none = xs.drop k := by
  unfold cutD
  rw [HT.sIx_none, HT.sIx_nat]
  by_cases h : k ≤ xs.length
  · rw [Nat.min_eq_left h, List.take_of_length_le (by rw [List.length_drop]; omega)]
  · rw [Nat.min_eq_right (by omega), List.drop_length, List.drop_eq_nil_of_le (by omega), List.take_nil]
structure WdOk (w : List (List Nat)) (c : Nat) : Prop where
  len : w.length = c
  nd : w.Nodup
  ok : ∀ s ∈ w, NameOk s
theorem names_ok (ns : List Int) (p n : Nat) (hn : n ≤ 26) : Ok (m_law_names (.rol (dis ns)) (dn p) (dn n)) (fun r => ∃ ls, r = ssD ls ∧ WdOk ls n) := by
  unfold m_law_names
  simp -implicitDefEqProofs only [Option.bind_some, Option.map_some, if_true_, if_ff, if_T, if_F, on0_s, on1_s, on2_s, on3_s, on4_s, on5_s, on6_s, asL_l, asL_r, asT_t, asB_b, len_l, len_r, len_t, l_0, l_1, l_2, l_3, l_4, l_5, l_6, l_7, l_8, l_9, l_10, l_11, l_12, l_13, l_14, l_15, l_20, l_21, l_22, l_25, l_26, l_30, l_31, l_32, l_36, l_38, l_40, l_60, l_64, l_70, l_96, l_97, l_100, l_128, l_512, l_7919, int_n, int_i, int_bn, add_n, ix_ln, ix_rn, ix_tn, list_l, list_t, few0, few1, few2, few3, few5, lt_n, gt_n, le_n, eqF_n, neF_n, rng1_m, flT_nx, flT_rt, flF_nx, flE_rt, un2_t, un3_t, tru_l, tru_b, app_n, cap_n, flat_n, flat_bl, optI_n, sl_n, zero_add_]
  refine ok_bind (rowN_ok ns p 15 (by decide)) fun r ⟨xs, e, hl, _⟩ => ?_
  subst e
  simp -implicitDefEqProofs only [Option.bind_some, Option.map_some, if_true_, if_ff, if_T, if_F, on0_s, on1_s, on2_s, on3_s, on4_s, on5_s, on6_s, asL_l, asL_r, asT_t, asB_b, len_l, len_r, len_t, l_0, l_1, l_2, l_3, l_4, l_5, l_6, l_7, l_8, l_9, l_10, l_11, l_12, l_13, l_14, l_15, l_20, l_21, l_22, l_25, l_26, l_30, l_31, l_32, l_36, l_38, l_40, l_60, l_64, l_70, l_96, l_97, l_100, l_128, l_512, l_7919, int_n, int_i, int_bn, add_n, ix_ln, ix_rn, ix_tn, list_l, list_t, few0, few1, few2, few3, few5, lt_n, gt_n, le_n, eqF_n, neF_n, rng1_m, flT_nx, flT_rt, flF_nx, flE_rt, un2_t, un3_t, tru_l, tru_b, app_n, cap_n, flat_n, flat_bl, optI_n, sl_n, zero_add_, rng_s (n := n) (by omega), capM_s (xs := dns (List.range n)) (by rw [dns_len, List.length_range]; omega)]
  rw [compD_dns (fun k => sD (nameN xs k)) fun k hk => by simp -implicitDefEqProofs only [Option.bind_some, Option.map_some, if_true_, if_ff, if_T, if_F, on0_s, on1_s, on2_s, on3_s, on4_s, on5_s, on6_s, asL_l, asL_r, asT_t, asB_b, len_l, len_r, len_t, l_0, l_1, l_2, l_3, l_4, l_5, l_6, l_7, l_8, l_9, l_10, l_11, l_12, l_13, l_14, l_15, l_20, l_21, l_22, l_25, l_26, l_30, l_31, l_32, l_36, l_38, l_40, l_60, l_64, l_70, l_96, l_97, l_100, l_128, l_512, l_7919, int_n, int_i, int_bn, add_n, ix_ln, ix_rn, ix_tn, list_l, list_t, few0, few1, few2, few3, few5, lt_n, gt_n, le_n, eqF_n, neF_n, rng1_m, flT_nx, flT_rt, flF_nx, flE_rt, un2_t, un3_t, tru_l, tru_b, app_n, cap_n, flat_n, flat_bl, optI_n, sl_n, zero_add_, name_ok (xs := xs) (by omega)]]
  refine ⟨_, rfl, (List.range n).map (nameN xs), by rw [ssD, List.map_map]; rfl, by rw [List.length_map, List.length_range], ?_, fun s hs => ?_⟩
  · rw [List.nodup_iff_pairwise_ne, List.pairwise_map]
    refine List.Pairwise.imp_of_mem (fun {a b} ha hb h e => h ?_) (List.nodup_range (n := n))
    exact name_inj (by have := List.mem_range.mp ha; omega) (by have := List.mem_range.mp hb; omega) e
  · obtain ⟨k, _, rfl⟩ := List.mem_map.mp hs
    exact nameOk xs k
structure HouseOk (cs : List Nat) (hs : List (List Nat)) (nm : List (List Nat)) (wd : List (List (List Nat))) : Prop where
  shp : Shp cs hs
  nm : WdOk nm cs.length
  wdl : wd.length = cs.length
  wd : ∀ v, v < cs.length → WdOk (wd.getD v []) (ct cs v)
noncomputable abbrev sssD (wd : List (List (List Nat))) : D := .lst (wd.map ssD)
theorem rot_ok {ls : List (List Nat)} {c k : Nat} (h : WdOk ls c) : WdOk (ls.drop k ++ ls.take k) c := by
  have pm : (ls.drop k ++ ls.take k).Perm ls := by
    have := List.perm_append_comm (l₁ := ls.drop k) (l₂ := ls.take k)
    rwa [List.take_append_drop] at this
  exact ⟨pm.length_eq.trans h.len, pm.nodup_iff.mpr h.nd, fun s hs => h.ok s (pm.mem_iff.mp hs)⟩
theorem take_ok {ls : List (List Nat)} {c k : Nat} (h : WdOk ls c) (hk : k ≤ c) : WdOk (ls.take k) k :=
  ⟨by rw [List.length_take, h.len]; omega, h.nd.sublist (List.take_sublist _ _), fun s hs => h.ok s (List.mem_of_mem_take hs)⟩
theorem house_ok (ns : List Int) (p cap : Nat) (hcap : 32 ≤ cap) : Ok (m_law_house (.rol (dis ns)) (dn p) (dn cap)) (fun r => ∃ cs hs nm wd, r = .tup [ssD nm, sssD wd, dll hs] ∧ HouseOk cs hs nm wd ∧ wayN cs hs ≤ cap) := by
  obtain ⟨r, es, cs, hs, e, sp, wl⟩ := shape_ok ns p cap hcap
  subst e
  have hi := sp.hi
  obtain ⟨r, en, nm, e, hnm⟩ := names_ok ns (p + 1) cs.length (by omega)
  subst e
  obtain ⟨r, er, xs, e, hl, _⟩ := rowN_ok ns p 40 (by decide)
  subst e
  obtain ⟨x38, h38⟩ := row_get hl (i := 38) (by decide)
  obtain ⟨r, ea, la, e, hla⟩ := names_ok ns (p + 2) 3 (by decide)
  subst e
  unfold m_law_house
  simp -implicitDefEqProofs only [Option.bind_some, Option.map_some, if_true_, if_ff, if_T, if_F, on0_s, on1_s, on2_s, on3_s, on4_s, on5_s, on6_s, asL_l, asL_r, asT_t, asB_b, len_l, len_r, len_t, l_0, l_1, l_2, l_3, l_4, l_5, l_6, l_7, l_8, l_9, l_10, l_11, l_12, l_13, l_14, l_15, l_20, l_21, l_22, l_25, l_26, l_30, l_31, l_32, l_36, l_38, l_40, l_60, l_64, l_70, l_96, l_97, l_100, l_128, l_512, l_7919, int_n, int_i, int_bn, add_n, ix_ln, ix_rn, ix_tn, list_l, list_t, few0, few1, few2, few3, few5, lt_n, gt_n, le_n, eqF_n, neF_n, rng1_m, flT_nx, flT_rt, flF_nx, flE_rt, un2_t, un3_t, tru_l, tru_b, app_n, cap_n, flat_n, flat_bl, optI_n, sl_n, zero_add_, es, dns_len, en, rng_s (n := cs.length) (by omega)]
  refine ok_bind (P := fun s => ∃ wd : List (List (List Nat)), s = sssD wd ∧ wd.length = cs.length ∧ ∀ v, v < cs.length → WdOk (wd.getD v []) (ct cs v)) ?_ fun s ⟨wd, e, h1, h2⟩ => ?_
  · refine forS_ok (fun i b => ∃ wd : List (List (List Nat)), b = sssD wd ∧ wd.length = i ∧ ∀ v, v < i → WdOk (wd.getD v []) (ct cs v)) ⟨[], rfl, rfl, fun v h => absurd h (Nat.not_lt_zero v)⟩ (fun i x b hx ⟨wd, e, h1, h2⟩ => ?_) (fun b h => by rw [dns_len, List.length_range] at h; exact h)
    subst e
    have hi2 : i < cs.length := by have := (List.getElem?_eq_some_iff.mp hx).1; rw [dns_len, List.length_range] at this; exact this
    rw [dns_at (List.getElem?_range hi2)] at hx
    cases hx
    obtain ⟨r, el, ls, e, hls⟩ := names_ok ns (p + 2 + i) 3 (by decide)
    subst e
    have hc := sp.ct23 hi2
    have fin : ∀ F : List (List Nat), WdOk F 3 → Ok ((((optI (dns cs)[i]?).bind fun t84 => some (D.lst (cutD (F.map sD) none t84))).bind fun t85 => appM (wd.map ssD) t85).bind fun found_63 => some found_63) (fun b => ∃ wd : List (List (List Nat)), b = sssD wd ∧ wd.length = i + 1 ∧ ∀ v, v < i + 1 → WdOk (wd.getD v []) (ct cs v)) := fun F hF => by
      simp -implicitDefEqProofs only [Option.bind_some, Option.map_some, if_true_, if_ff, if_T, if_F, on0_s, on1_s, on2_s, on3_s, on4_s, on5_s, on6_s, asL_l, asL_r, asT_t, asB_b, len_l, len_r, len_t, l_0, l_1, l_2, l_3, l_4, l_5, l_6, l_7, l_8, l_9, l_10, l_11, l_12, l_13, l_14, l_15, l_20, l_21, l_22, l_25, l_26, l_30, l_31, l_32, l_36, l_38, l_40, l_60, l_64, l_70, l_96, l_97, l_100, l_128, l_512, l_7919, int_n, int_i, int_bn, add_n, ix_ln, ix_rn, ix_tn, list_l, list_t, few0, few1, few2, few3, few5, lt_n, gt_n, le_n, eqF_n, neF_n, rng1_m, flT_nx, flT_rt, flF_nx, flE_rt, un2_t, un3_t, tru_l, tru_b, app_n, cap_n, flat_n, flat_bl, optI_n, sl_n, zero_add_, dns_at (ct_get hi2), cutD_to, appM_s (xs := wd.map ssD) (by rw [List.length_map]; omega)]
      refine ⟨_, rfl, wd ++ [F.take (ct cs i)], ?_, by rw [List.length_append, h1]; rfl, fun v hv => ?_⟩
      · rw [sssD, List.map_append, ← List.map_take]; rfl
      · rw [List.getD_eq_getElem?_getD]
        by_cases z : v < i
        · rw [List.getElem?_append_left (by omega), ← List.getD_eq_getElem?_getD]; exact h2 v z
        · have z : v = i := by omega
          subst z
          rw [List.getElem?_append_right (by omega), h1, Nat.sub_self]
          exact take_ok hF (by omega)
    simp -implicitDefEqProofs only [Option.bind_some, Option.map_some, if_true_, if_ff, if_T, if_F, on0_s, on1_s, on2_s, on3_s, on4_s, on5_s, on6_s, asL_l, asL_r, asT_t, asB_b, len_l, len_r, len_t, l_0, l_1, l_2, l_3, l_4, l_5, l_6, l_7, l_8, l_9, l_10, l_11, l_12, l_13, l_14, l_15, l_20, l_21, l_22, l_25, l_26, l_30, l_31, l_32, l_36, l_38, l_40, l_60, l_64, l_70, l_96, l_97, l_100, l_128, l_512, l_7919, int_n, int_i, int_bn, add_n, ix_ln, ix_rn, ix_tn, list_l, list_t, few0, few1, few2, few3, few5, lt_n, gt_n, le_n, eqF_n, neF_n, rng1_m, flT_nx, flT_rt, flF_nx, flE_rt, un2_t, un3_t, tru_l, tru_b, app_n, cap_n, flat_n, flat_bl, optI_n, sl_n, zero_add_, el, er, dns_at h38, mod_n (b := 3) (by decide), ea, cutD_to, cutD_from]
    have cat : ∀ k : Nat, dCat (.lst ((la.map sD).drop k)) (.lst ((la.map sD).take k)) = some (ssD (la.drop k ++ la.take k)) := fun k => by
      show (if ((la.map sD).drop k).length + ((la.map sD).take k).length ≤ 100000 then some (D.lst ((la.map sD).drop k ++ (la.map sD).take k)) else none) = _
      rw [if_pos (by rw [List.length_drop, List.length_take, List.length_map, hla.len]; omega), ssD, List.map_append, List.map_drop, List.map_take]
    by_cases z : x38 % 3 = 0
    · simp -implicitDefEqProofs only [Option.bind_some, Option.map_some, if_true_, if_ff, if_T, if_F, on0_s, on1_s, on2_s, on3_s, on4_s, on5_s, on6_s, asL_l, asL_r, asT_t, asB_b, len_l, len_r, len_t, l_0, l_1, l_2, l_3, l_4, l_5, l_6, l_7, l_8, l_9, l_10, l_11, l_12, l_13, l_14, l_15, l_20, l_21, l_22, l_25, l_26, l_30, l_31, l_32, l_36, l_38, l_40, l_60, l_64, l_70, l_96, l_97, l_100, l_128, l_512, l_7919, int_n, int_i, int_bn, add_n, ix_ln, ix_rn, ix_tn, list_l, list_t, few0, few1, few2, few3, few5, lt_n, gt_n, le_n, eqF_n, neF_n, rng1_m, flT_nx, flT_rt, flF_nx, flE_rt, un2_t, un3_t, tru_l, tru_b, app_n, cap_n, flat_n, flat_bl, optI_n, sl_n, zero_add_, z, decide_eq_true, cat]
      exact fin _ (rot_ok hla)
    · simp -implicitDefEqProofs only [Option.bind_some, Option.map_some, if_true_, if_ff, if_T, if_F, on0_s, on1_s, on2_s, on3_s, on4_s, on5_s, on6_s, asL_l, asL_r, asT_t, asB_b, len_l, len_r, len_t, l_0, l_1, l_2, l_3, l_4, l_5, l_6, l_7, l_8, l_9, l_10, l_11, l_12, l_13, l_14, l_15, l_20, l_21, l_22, l_25, l_26, l_30, l_31, l_32, l_36, l_38, l_40, l_60, l_64, l_70, l_96, l_97, l_100, l_128, l_512, l_7919, int_n, int_i, int_bn, add_n, ix_ln, ix_rn, ix_tn, list_l, list_t, few0, few1, few2, few3, few5, lt_n, gt_n, le_n, eqF_n, neF_n, rng1_m, flT_nx, flT_rt, flF_nx, flE_rt, un2_t, un3_t, tru_l, tru_b, app_n, cap_n, flat_n, flat_bl, optI_n, sl_n, zero_add_, decide_eq_false z]
      exact fin _ hls
  · subst e
    exact ⟨_, rfl, cs, hs, nm, wd, rfl, ⟨sp, hnm, h1, h2⟩, wl⟩
end Oh
namespace Oh
open PySem L2 TL
noncomputable abbrev Low (a : List Nat) : Prop := ∀ c ∈ a, c < 0x110000
/-- a word as the law's texts hold them -/
structure WOk (s : List Nat) : Prop where
  ne : s ≠ []
  sp : 32 ∉ s
  len : s.length ≤ 13
  low : Low s
section
variable {cs : List Nat} {hs : List (List Nat)} {nm : List (List Nat)} {wd : List (List (List Nat))} {v : Nat}
noncomputable def houseV (nm : List (List Nat)) (wd : List (List (List Nat))) (hs : List (List Nat)) : D := .ob 1 [("names", ssD nm), ("words", sssD wd), ("heard", dll hs)]
theorem fldV_n : dFld 1 "names" (houseV nm wd hs) = some (ssD nm) := rfl
theorem fldV_w : dFld 1 "words" (houseV nm wd hs) = some (sssD wd) := rfl
theorem fldV_h : dFld 1 "heard" (houseV nm wd hs) = some (dll hs) := rfl
theorem mk_ok (h1 : wd.length ≤ 1000) (h2 : hs.length ≤ 1000) : mk_House [ssD nm, sssD wd, dll hs] = some (houseV nm wd hs) := by
  have c1 : capM (wd.map ssD) = some (wd.map ssD) := capM_s (by rw [List.length_map]; omega)
  have c2 : capM (hs.map dl) = some (hs.map dl) := capM_s (by rw [List.length_map]; omega)
  have e1 : compD (fun c_5 => Option.map some (dList c_5)) (wd.map ssD) = some (wd.map ssD) := compD_map ssD ssD fun c _ => rfl
  have e2 : compD (fun c_5 => Option.map some (dList c_5)) (hs.map dl) = some (hs.map dl) := compD_map dl dl fun c _ => rfl
  unfold mk_House i_House
  simp -implicitDefEqProofs only [Option.bind_some, Option.map_some, if_true_, if_ff, if_T, if_F, on0_s, on1_s, on2_s, on3_s, on4_s, on5_s, on6_s, asL_l, asL_r, asT_t, asB_b, len_l, len_r, len_t, l_0, l_1, l_2, l_3, l_4, l_5, l_6, l_7, l_8, l_9, l_10, l_11, l_12, l_13, l_14, l_15, l_20, l_21, l_22, l_25, l_26, l_30, l_31, l_32, l_36, l_38, l_40, l_60, l_64, l_70, l_96, l_97, l_100, l_128, l_512, l_7919, int_n, int_i, int_bn, add_n, ix_ln, ix_rn, ix_tn, list_l, list_t, few0, few1, few2, few3, few5, lt_n, gt_n, le_n, eqF_n, neF_n, rng1_m, flT_nx, flT_rt, flF_nx, flE_rt, un2_t, un3_t, tru_l, tru_b, app_n, cap_n, flat_n, flat_bl, optI_n, sl_n, zero_add_, c1, c2, e1, e2]
  rfl
theorem HouseOk.hlt (h : HouseOk cs hs nm wd) (hv1 : v < cs.length) : (hv hs v).length ≤ 4 := by
  have := h.shp.hlen hv1
  have := h.shp.hi
  omega
theorem HouseOk.wlt (h : HouseOk cs hs nm wd) (hv1 : v < cs.length) : (wd.getD v []).length ≤ 3 := by
  have := (h.wd v hv1).len
  have := h.shp.ct23 hv1
  omega
theorem ls_at {ls : List (List Nat)} {i : Nat} (h : i < ls.length) : (ls.map sD)[i]? = some (sD (ls.getD i [])) := by
  rw [List.getElem?_map, List.getD_eq_getElem?_getD, List.getElem?_eq_getElem h]; rfl
theorem lss_at {ls : List (List (List Nat))} {i : Nat} (h : i < ls.length) : (ls.map ssD)[i]? = some (ssD (ls.getD i [])) := by
  rw [List.getElem?_map, List.getD_eq_getElem?_getD, List.getElem?_eq_getElem h]; rfl
theorem catW {a b : List (List Nat)} (h : a.length + b.length ≤ 100000) : dCat (ssD a) (ssD b) = some (ssD (a ++ b)) := by
  show (if (a.map sD).length + (b.map sD).length ≤ 100000 then some (D.lst (a.map sD ++ b.map sD)) else none) = _
  rw [List.length_map, List.length_map, if_pos h, ssD, List.map_append]
theorem appW {a : List (List Nat)} {b : List Nat} (h : a.length < 100000) : dApp (ssD a) (sD b) = some (ssD (a ++ [b])) := by
  show (if (a.map sD).length < 100000 then some (D.lst (a.map sD ++ [sD b])) else none) = _
  rw [List.length_map, if_pos h, ssD, List.map_append]; rfl
theorem names_comp {h : List Nat} (hh : ∀ u ∈ h, u < nm.length) : compD (fun c => Option.map some (dIx (ssD nm) c)) (dns h) = some ((h.map fun u => nm.getD u []).map sD) := by
  rw [List.map_map]
  exact compD_dns (fun u => sD (nm.getD u [])) fun u hu => by simp -implicitDefEqProofs only [Option.bind_some, Option.map_some, if_true_, if_ff, if_T, if_F, on0_s, on1_s, on2_s, on3_s, on4_s, on5_s, on6_s, asL_l, asL_r, asT_t, asB_b, len_l, len_r, len_t, l_0, l_1, l_2, l_3, l_4, l_5, l_6, l_7, l_8, l_9, l_10, l_11, l_12, l_13, l_14, l_15, l_20, l_21, l_22, l_25, l_26, l_30, l_31, l_32, l_36, l_38, l_40, l_60, l_64, l_70, l_96, l_97, l_100, l_128, l_512, l_7919, int_n, int_i, int_bn, add_n, ix_ln, ix_rn, ix_tn, list_l, list_t, few0, few1, few2, few3, few5, lt_n, gt_n, le_n, eqF_n, neF_n, rng1_m, flT_nx, flT_rt, flF_nx, flE_rt, un2_t, un3_t, tru_l, tru_b, app_n, cap_n, flat_n, flat_bl, optI_n, sl_n, zero_add_, ls_at (hh u hu)]
/-- every word of the text is a kept word or a name -/
theorem word_len {s : List Nat} (h : WOk s) : s.length ≤ 13 := h.len
theorem sp_lit : sD (Wd " ") = sD [32] := rfl
end
theorem wd_nil : sD (Wd "") = sD [] := rfl
theorem kept_an : ∀ w ∈ kept, w ≠ [] := by decide +kernel
theorem isi_s {s : List Nat} : dIsi .str (sD s) = some (.bl true) := rfl
noncomputable def rdV (ws : List (List Nat)) (i : Nat) : D := .ob 0 [("words", ssD ws), ("at", dn i)]
section
variable {ws : List (List Nat)} {i : Nat} {w : List Nat}
theorem rd_at : dFld 0 "at" (rdV ws i) = some (dn i) := rfl
theorem rd_ws : dFld 0 "words" (rdV ws i) = some (ssD ws) := rfl
theorem mt1 : dMt 0 "ended" (rdV ws i) = some (rdV ws i) := rfl
theorem mt2 : dMt 0 "coming" (rdV ws i) = some (rdV ws i) := rfl
theorem mt3 : dMt 0 "take" (rdV ws i) = some (rdV ws i) := rfl
theorem mt4 : dMt 0 "take_name" (rdV ws i) = some (rdV ws i) := rfl
theorem mt6 : dMt 0 "finish" (rdV ws i) = some (rdV ws i) := rfl
theorem mt5 : dMt 0 "take_index" (rdV ws i) = some (rdV ws i) := rfl
theorem rd_set {j : Nat} : dStF 0 "at" (rdV ws i) (dn j) = some (rdV ws j) := rfl
theorem ended_ok : m_Reader_ended (rdV ws i) = some (.bl (decide (i = ws.length))) := by
  unfold m_Reader_ended
  simp -implicitDefEqProofs only [Option.bind_some, Option.map_some, if_true_, if_ff, if_T, if_F, on0_s, on1_s, on2_s, on3_s, on4_s, on5_s, on6_s, asL_l, asL_r, asT_t, asB_b, len_l, len_r, len_t, l_0, l_1, l_2, l_3, l_4, l_5, l_6, l_7, l_8, l_9, l_10, l_11, l_12, l_13, l_14, l_15, l_20, l_21, l_22, l_25, l_26, l_30, l_31, l_32, l_36, l_38, l_40, l_60, l_64, l_70, l_96, l_97, l_100, l_128, l_512, l_7919, int_n, int_i, int_bn, add_n, ix_ln, ix_rn, ix_tn, list_l, list_t, few0, few1, few2, few3, few5, lt_n, gt_n, le_n, eqF_n, neF_n, rng1_m, flT_nx, flT_rt, flF_nx, flE_rt, un2_t, un3_t, tru_l, tru_b, app_n, cap_n, flat_n, flat_bl, optI_n, sl_n, zero_add_, rd_at, rd_ws, List.length_map]
theorem coming_ok0 (h : ws[i]? = some w) : m_Reader_coming (rdV ws i) = some (sD w) := by
  have hl : i < ws.length := (List.getElem?_eq_some_iff.mp h).1
  unfold m_Reader_coming
  simp -implicitDefEqProofs only [Option.bind_some, Option.map_some, if_true_, if_ff, if_T, if_F, on0_s, on1_s, on2_s, on3_s, on4_s, on5_s, on6_s, asL_l, asL_r, asT_t, asB_b, len_l, len_r, len_t, l_0, l_1, l_2, l_3, l_4, l_5, l_6, l_7, l_8, l_9, l_10, l_11, l_12, l_13, l_14, l_15, l_20, l_21, l_22, l_25, l_26, l_30, l_31, l_32, l_36, l_38, l_40, l_60, l_64, l_70, l_96, l_97, l_100, l_128, l_512, l_7919, int_n, int_i, int_bn, add_n, ix_ln, ix_rn, ix_tn, list_l, list_t, few0, few1, few2, few3, few5, lt_n, gt_n, le_n, eqF_n, neF_n, rng1_m, flT_nx, flT_rt, flF_nx, flE_rt, un2_t, un3_t, tru_l, tru_b, app_n, cap_n, flat_n, flat_bl, optI_n, sl_n, zero_add_, mt1, ended_ok, decide_eq_false (show ¬ i = ws.length by omega), rd_at, rd_ws]
  rw [List.getElem?_map, h]; rfl
theorem flat_s {a : List Nat} : flatD (sD a) = some (sD a) := rfl
theorem addI_n {a b : Nat} : dAddI (dn a) (dn b) = some (dn (a + b)) := rfl
end
noncomputable def fil (l : List Nat) : List (List Nat) := (spl [32] 0 [] l).filter fun w => !decide (w = [])
theorem fil_sp (l : List Nat) : fil (32 :: l) = fil l := by
  unfold fil
  rw [spl_hit (S := [32]) (by unfold pre; simp)]
  rfl
theorem fil_sps (l : List Nat) : ∀ k, fil (List.replicate k 32 ++ l) = fil l
  | 0 => rfl
  | k + 1 => by rw [List.replicate_succ, List.cons_append, fil_sp, fil_sps l k]
theorem fil_nil : fil [] = [] := rfl
theorem fil_word {w r : List Nat} (h : 32 ∉ w) (hw : w ≠ []) (hr : r = [] ∨ ∃ r', r = 32 :: r') : fil (w ++ r) = w :: fil r := by
  rcases hr with rfl | ⟨r', rfl⟩
  · unfold fil
    rw [List.append_nil, spl_last1 h]
    simp [hw, spl_nil]
  · rw [fil_sp]
    unfold fil
    have := spl_part1 (s := 32) (S := []) (p := w) (rest := r') (acc := []) h
    rw [show w ++ 32 :: r' = w ++ ([32] ++ r') from rfl, this, List.nil_append, List.filter_cons, if_pos (by simp [hw])]
theorem kept_sp : ∀ w ∈ kept, 32 ∉ w := by decide +kernel
theorem an_sp : 32 ∉ an := by decide +kernel
theorem word_sp {s : List Nat} (h : WOk s) : 32 ∉ s ∧ s ≠ [] := ⟨h.sp, h.ne⟩
theorem spl_len : ∀ (l acc : List Nat), (spl [32] 0 acc l).length ≤ l.length + 1
  | [], acc => by rw [spl_nil]; exact Nat.le_refl _
  | c :: l, acc => by
    by_cases h : pre [32] (c :: l) = true
    · rw [spl_hit h, List.length_cons, List.length_cons]
      exact Nat.succ_le_succ (spl_len l [])
    · rw [spl_miss (by simpa using h), List.length_cons]
      exact Nat.le_succ_of_le (spl_len l _)
theorem reader_ok {l : List Nat} (h : l.length ≤ 80000) : mk_Reader [sD l] = some (rdV (fil l) 0) := by
  have hl : (spl [32] 0 [] l).length ≤ 90000 := by
    have := spl_len l []
    omega
  have e1 : compD (fun c_4 => ((dNeF c_4 (sD (Wd ""))).bind asB).bind fun b_8 => if b_8 = true then some (some c_4) else some none) ((spl [32] 0 [] l).map sD) = some ((fil l).map sD) :=
    compD_filter sD sD (fun w => !decide (w = [])) fun w _ => by
      rw [wd_nil, neF_s]
      by_cases z : w = []
      · rw [decide_eq_true z]; rfl
      · rw [decide_eq_false z]; rfl
  unfold mk_Reader i_Reader
  simp -implicitDefEqProofs only [Option.bind_some, Option.map_some, if_true_, if_ff, if_T, if_F, on0_s, on1_s, on2_s, on3_s, on4_s, on5_s, on6_s, asL_l, asL_r, asT_t, asB_b, len_l, len_r, len_t, l_0, l_1, l_2, l_3, l_4, l_5, l_6, l_7, l_8, l_9, l_10, l_11, l_12, l_13, l_14, l_15, l_20, l_21, l_22, l_25, l_26, l_30, l_31, l_32, l_36, l_38, l_40, l_60, l_64, l_70, l_96, l_97, l_100, l_128, l_512, l_7919, int_n, int_i, int_bn, add_n, ix_ln, ix_rn, ix_tn, list_l, list_t, few0, few1, few2, few3, few5, lt_n, gt_n, le_n, eqF_n, neF_n, rng1_m, flT_nx, flT_rt, flF_nx, flE_rt, un2_t, un3_t, tru_l, tru_b, app_n, cap_n, flat_n, flat_bl, optI_n, sl_n, zero_add_, lit_s, sp_lit, split_s (l := l) (by omega), capM_s (xs := (spl [32] 0 [] l).map sD) (by rw [List.length_map]; exact hl), e1]
  rfl
/-! the law's spaced text -/
structure Spd (W : List (List Nat)) (k : Nat) (T : List Nat) : Prop where
  len : T.length ≤ 2 + 16 * k
  fl : ∀ r : List Nat, (0 < k → r = [] ∨ ∃ r', r = 32 :: r') → fil (T ++ r) = W.take k ++ fil r
theorem take_snoc {W : List (List Nat)} {k : Nat} (h : k < W.length) : W.take (k + 1) = W.take k ++ [W.getD k []] := by
  rw [List.take_succ, List.getD_eq_getElem?_getD, List.getElem?_eq_getElem h]; rfl
theorem Spd.next {W : List (List Nat)} {k b : Nat} {T : List Nat} (h : Spd W k T) (hk : k < W.length) (hw : WOk (W.getD k [])) (hb : 1 ≤ b ∧ b ≤ 3) : Spd W (k + 1) (T ++ (if 0 < k then List.replicate b 32 else []) ++ W.getD k []) := by
  have hl := word_len hw
  obtain ⟨h32, hne⟩ := word_sp hw
  refine ⟨?_, fun r hr => ?_⟩
  · have := h.len
    rw [List.length_append, List.length_append]
    split
    · rw [List.length_replicate]; omega
    · show _ + 0 + _ ≤ _; omega
  · have hr := hr (Nat.succ_pos _)
    rw [take_snoc hk, List.append_assoc, List.append_assoc]
    by_cases z : 0 < k
    · rw [if_pos z]
      obtain ⟨b', rfl⟩ : ∃ b', b = b' + 1 := ⟨b - 1, by omega⟩
      rw [h.fl _ (fun _ => .inr ⟨_, by rw [List.replicate_succ, List.cons_append]⟩), fil_sps, fil_word h32 hne hr, List.append_assoc]; rfl
    · rw [if_neg z, List.nil_append, h.fl _ (fun y => absurd y z), fil_word h32 hne hr, List.append_assoc]; rfl
theorem spaced_ok {W : List (List Nat)} {xs : List Nat} (hl : 8 ≤ xs.length) (hW : ∀ s ∈ W, WOk s) (hn : W.length ≤ 1000) : Ok (m_law_spaced (ssD W) (dl xs)) (fun t => ∃ l, t = sD l ∧ mk_Reader [sD l] = some (rdV W 0)) := by
  have rx : ∀ i, i < 8 → (dns xs)[i]? = some (dn (xs.getD i 0)) := fun i hi => by
    refine dns_at ?_
    rw [List.getD_eq_getElem?_getD, List.getElem?_eq_getElem (by omega)]; rfl
  have r0 := rx 0 (by decide)
  have r6 : (dns xs)[6]? = some (dn (xs.getD 6 0)) := rx 6 (by decide)
  have m3 : ∀ a : Nat, a % 3 < 3 := fun a => Nat.mod_lt _ (by decide)
  have hm0 := m3 (xs.getD 0 0)
  have hm6 := m3 (xs.getD 6 0)
  unfold m_law_spaced
  simp -implicitDefEqProofs only [Option.bind_some, Option.map_some, if_true_, if_ff, if_T, if_F, on0_s, on1_s, on2_s, on3_s, on4_s, on5_s, on6_s, asL_l, asL_r, asT_t, asB_b, len_l, len_r, len_t, l_0, l_1, l_2, l_3, l_4, l_5, l_6, l_7, l_8, l_9, l_10, l_11, l_12, l_13, l_14, l_15, l_20, l_21, l_22, l_25, l_26, l_30, l_31, l_32, l_36, l_38, l_40, l_60, l_64, l_70, l_96, l_97, l_100, l_128, l_512, l_7919, int_n, int_i, int_bn, add_n, ix_ln, ix_rn, ix_tn, list_l, list_t, few0, few1, few2, few3, few5, lt_n, gt_n, le_n, eqF_n, neF_n, rng1_m, flT_nx, flT_rt, flF_nx, flE_rt, un2_t, un3_t, tru_l, tru_b, app_n, cap_n, flat_n, flat_bl, optI_n, sl_n, zero_add_, lit_s, sp_lit, r0, r6, mod_n (b := 3) (by decide), mul_sp (k := xs.getD 0 0 % 3) (by omega), mul_sp (k := xs.getD 6 0 % 3) (by omega), List.length_map, rng_s (n := W.length) (by omega)]
  refine ok_bind (P := fun b => ∃ T, b = sD T ∧ Spd W W.length T) (forS_ok (fun i b => ∃ T, b = sD T ∧ Spd W i T) ⟨_, rfl, ⟨by rw [List.length_replicate]; omega, fun r _ => by rw [fil_sps]; rfl⟩⟩ (fun i x b hx ⟨T, e, hT⟩ => ?_) (fun b h => by rw [dns_len, List.length_range] at h; exact h)) fun b ⟨T, e, hT⟩ => ?_
  · subst e
    have hi2 : i < W.length := by have := (List.getElem?_eq_some_iff.mp hx).1; rw [dns_len, List.length_range] at this; exact this
    rw [dns_at (List.getElem?_range hi2)] at hx
    cases hx
    have hw : WOk (W.getD i []) := hW _ (by rw [List.getD_eq_getElem?_getD, List.getElem?_eq_getElem hi2]; exact List.getElem_mem _)
    have wl := word_len hw
    have tl1 := hT.len
    have r5 := rx (1 + i % 5) (by have : i % 5 < 5 := Nat.mod_lt _ (by decide); omega)
    have hb : 1 ≤ 1 + xs.getD (1 + i % 5) 0 / (1 + i) % 3 ∧ 1 + xs.getD (1 + i % 5) 0 / (1 + i) % 3 ≤ 3 := by have := m3 (xs.getD (1 + i % 5) 0 / (1 + i)); omega
    have hnx := hT.next hi2 hw hb
    have wi := ls_at (ls := W) hi2
    simp -implicitDefEqProofs only [Option.bind_some, Option.map_some, if_true_, if_ff, if_T, if_F, on0_s, on1_s, on2_s, on3_s, on4_s, on5_s, on6_s, asL_l, asL_r, asT_t, asB_b, len_l, len_r, len_t, l_0, l_1, l_2, l_3, l_4, l_5, l_6, l_7, l_8, l_9, l_10, l_11, l_12, l_13, l_14, l_15, l_20, l_21, l_22, l_25, l_26, l_30, l_31, l_32, l_36, l_38, l_40, l_60, l_64, l_70, l_96, l_97, l_100, l_128, l_512, l_7919, int_n, int_i, int_bn, add_n, ix_ln, ix_rn, ix_tn, list_l, list_t, few0, few1, few2, few3, few5, lt_n, gt_n, le_n, eqF_n, neF_n, rng1_m, flT_nx, flT_rt, flF_nx, flE_rt, un2_t, un3_t, tru_l, tru_b, app_n, cap_n, flat_n, flat_bl, optI_n, sl_n, zero_add_, mod_n (b := 5) (by decide), r5, div_n (a := xs.getD (1 + i % 5) 0) (b := 1 + i) (by omega) (by omega), mod_n (b := 3) (by decide), mul_sp (k := 1 + xs.getD (1 + i % 5) 0 / (1 + i) % 3) (by omega), wi]
    by_cases z : 0 < i
    · rw [if_pos z] at hnx
      rw [decide_eq_true z]
      simp -implicitDefEqProofs only [Option.bind_some, Option.map_some, if_true_, if_ff, if_T, if_F, on0_s, on1_s, on2_s, on3_s, on4_s, on5_s, on6_s, asL_l, asL_r, asT_t, asB_b, len_l, len_r, len_t, l_0, l_1, l_2, l_3, l_4, l_5, l_6, l_7, l_8, l_9, l_10, l_11, l_12, l_13, l_14, l_15, l_20, l_21, l_22, l_25, l_26, l_30, l_31, l_32, l_36, l_38, l_40, l_60, l_64, l_70, l_96, l_97, l_100, l_128, l_512, l_7919, int_n, int_i, int_bn, add_n, ix_ln, ix_rn, ix_tn, list_l, list_t, few0, few1, few2, few3, few5, lt_n, gt_n, le_n, eqF_n, neF_n, rng1_m, flT_nx, flT_rt, flF_nx, flE_rt, un2_t, un3_t, tru_l, tru_b, app_n, cap_n, flat_n, flat_bl, optI_n, sl_n, zero_add_, add_s (a := T) (b := List.replicate (1 + xs.getD (1 + i % 5) 0 / (1 + i) % 3) 32) (by rw [List.length_replicate]; omega)]
      rw [add_s (by rw [List.length_append, List.length_replicate]; omega)]
      exact ⟨_, rfl, _, rfl, hnx⟩
    · rw [if_neg z, List.append_nil] at hnx
      rw [decide_eq_false z]
      simp -implicitDefEqProofs only [Option.bind_some, Option.map_some, if_true_, if_ff, if_T, if_F, on0_s, on1_s, on2_s, on3_s, on4_s, on5_s, on6_s, asL_l, asL_r, asT_t, asB_b, len_l, len_r, len_t, l_0, l_1, l_2, l_3, l_4, l_5, l_6, l_7, l_8, l_9, l_10, l_11, l_12, l_13, l_14, l_15, l_20, l_21, l_22, l_25, l_26, l_30, l_31, l_32, l_36, l_38, l_40, l_60, l_64, l_70, l_96, l_97, l_100, l_128, l_512, l_7919, int_n, int_i, int_bn, add_n, ix_ln, ix_rn, ix_tn, list_l, list_t, few0, few1, few2, few3, few5, lt_n, gt_n, le_n, eqF_n, neF_n, rng1_m, flT_nx, flT_rt, flF_nx, flE_rt, un2_t, un3_t, tru_l, tru_b, app_n, cap_n, flat_n, flat_bl, optI_n, sl_n, zero_add_]
      rw [add_s (by omega)]
      exact ⟨_, rfl, _, rfl, hnx⟩
  · subst e
    have tl1 := hT.len
    rw [add_s (by rw [List.length_replicate]; omega)]
    refine ⟨_, rfl, _, rfl, ?_⟩
    rw [reader_ok (by rw [List.length_append, List.length_replicate]; omega), hT.fl _ (fun _ => ?_), List.take_length]
    · have := fil_sps [] (xs.getD 6 0 % 3)
      rw [List.append_nil] at this
      rw [this, fil_nil, List.append_nil]
    · cases xs.getD 6 0 % 3 with
      | zero => exact .inl rfl
      | succ m => exact .inr ⟨_, List.replicate_succ⟩
theorem forF_unit {k : D → Unit → Option (Fl Unit Unit)} : ∀ {xs : List D}, (∀ x ∈ xs, k x () = some (Fl.nx ())) → forF (γ := Empty) k xs () = some (Fl.nx ())
  | [], _ => rfl
  | x :: xs, h => by
    show (k x ()).bind _ = _
    rw [h x List.mem_cons_self]
    exact forF_unit fun y hy => h y (List.mem_cons_of_mem _ hy)
theorem an_low : ∀ c ∈ an, c < 0x110000 := by decide +kernel
theorem NameOk.low {s : List Nat} (h : NameOk s) : Low s := fun c hc => an_low c (h.all c hc)
theorem eq_s {a : List Nat} (h : Low a) : dEq (sD a) (sD a) = some (.bl true) := by
  have ok : PyData.strOk (sS a) = true := by
    unfold PyData.strOk
    rw [← Array.all_toList, List.all_eq_true]
    exact fun c hc => decide_eq_true (h c hc)
  have sh : SeqAt.shaped (.str (sS a)) = true := by unfold SeqAt.shaped; simp only [PyData.canLay0, PyData.depth, ok]; rfl
  unfold dEq dEqB
  simp only [toP, Option.bind_some]
  rw [if_pos ⟨sh, sh⟩]
  simp [PyData.eqv]
theorem eq_n {a : Nat} : dEq (dn a) (dn a) = some (.bl true) := by
  unfold dEq dEqB
  simp only [toP, Option.bind_some]
  rw [if_pos ⟨by unfold SeqAt.shaped; simp [PyData.canLay0, PyData.depth], by unfold SeqAt.shaped; simp [PyData.canLay0, PyData.depth]⟩]
  simp [PyData.eqv]
theorem same_s {f : Nat} {a : List Nat} (h : Low a) : m_law_same (f + 1) (sD a) (sD a) = some (.bl true) := by
  have b1 : ∀ t : Ty, t ≠ .str → dIsi t (sD a) = some (.bl false) := fun t h => by cases t <;> first | rfl | exact absurd rfl h
  unfold m_law_same
  simp -implicitDefEqProofs only [Option.bind_some, Option.map_some, if_true_, if_ff, if_T, if_F, on0_s, on1_s, on2_s, on3_s, on4_s, on5_s, on6_s, asL_l, asL_r, asT_t, asB_b, len_l, len_r, len_t, l_0, l_1, l_2, l_3, l_4, l_5, l_6, l_7, l_8, l_9, l_10, l_11, l_12, l_13, l_14, l_15, l_20, l_21, l_22, l_25, l_26, l_30, l_31, l_32, l_36, l_38, l_40, l_60, l_64, l_70, l_96, l_97, l_100, l_128, l_512, l_7919, int_n, int_i, int_bn, add_n, ix_ln, ix_rn, ix_tn, list_l, list_t, few0, few1, few2, few3, few5, lt_n, gt_n, le_n, eqF_n, neF_n, rng1_m, flT_nx, flT_rt, flF_nx, flE_rt, un2_t, un3_t, tru_l, tru_b, app_n, cap_n, flat_n, flat_bl, optI_n, sl_n, zero_add_, b1 .list (by decide), b1 .tuple (by decide), b1 .bool (by decide), b1 .int (by decide), isi_s, eq_s h]
theorem same_n {f : Nat} {a : Nat} : m_law_same (f + 1) (dn a) (dn a) = some (.bl true) := by
  have b1 : ∀ t : Ty, t ≠ .int → dIsi t (dn a) = some (.bl false) := fun t h => by cases t <;> first | rfl | exact absurd rfl h
  have b2 : dIsi .int (dn a) = some (.bl true) := rfl
  have b3 : m_law_is_integer (dn a) = some (.bl true) := by unfold m_law_is_integer; simp -implicitDefEqProofs only [Option.bind_some, Option.map_some, if_true_, if_ff, if_T, if_F, on0_s, on1_s, on2_s, on3_s, on4_s, on5_s, on6_s, asL_l, asL_r, asT_t, asB_b, len_l, len_r, len_t, l_0, l_1, l_2, l_3, l_4, l_5, l_6, l_7, l_8, l_9, l_10, l_11, l_12, l_13, l_14, l_15, l_20, l_21, l_22, l_25, l_26, l_30, l_31, l_32, l_36, l_38, l_40, l_60, l_64, l_70, l_96, l_97, l_100, l_128, l_512, l_7919, int_n, int_i, int_bn, add_n, ix_ln, ix_rn, ix_tn, list_l, list_t, few0, few1, few2, few3, few5, lt_n, gt_n, le_n, eqF_n, neF_n, rng1_m, flT_nx, flT_rt, flF_nx, flE_rt, un2_t, un3_t, tru_l, tru_b, app_n, cap_n, flat_n, flat_bl, optI_n, sl_n, zero_add_, b2, b1 .bool (by decide), Bool.not_false]
  unfold m_law_same
  simp -implicitDefEqProofs only [Option.bind_some, Option.map_some, if_true_, if_ff, if_T, if_F, on0_s, on1_s, on2_s, on3_s, on4_s, on5_s, on6_s, asL_l, asL_r, asT_t, asB_b, len_l, len_r, len_t, l_0, l_1, l_2, l_3, l_4, l_5, l_6, l_7, l_8, l_9, l_10, l_11, l_12, l_13, l_14, l_15, l_20, l_21, l_22, l_25, l_26, l_30, l_31, l_32, l_36, l_38, l_40, l_60, l_64, l_70, l_96, l_97, l_100, l_128, l_512, l_7919, int_n, int_i, int_bn, add_n, ix_ln, ix_rn, ix_tn, list_l, list_t, few0, few1, few2, few3, few5, lt_n, gt_n, le_n, eqF_n, neF_n, rng1_m, flT_nx, flT_rt, flF_nx, flE_rt, un2_t, un3_t, tru_l, tru_b, app_n, cap_n, flat_n, flat_bl, optI_n, sl_n, zero_add_, b1 .list (by decide), b1 .tuple (by decide), b1 .bool (by decide), b2, b3, eq_n]
theorem same_l {f : Nat} {xs : List D} (hl : xs.length ≤ 1000) (h : ∀ x ∈ xs, m_law_same f x x = some (.bl true)) : m_law_same (f + 1) (.lst xs) (.lst xs) = some (.bl true) := by
  have b1 : dIsi .list (.lst xs) = some (.bl true) := rfl
  have b2 : dIsi .tuple (.lst xs) = some (.bl false) := rfl
  have b3 : ∀ b : Bool, dNeF (.bl b) (.bl b) = some (.bl false) := fun b => by cases b <;> rfl
  unfold m_law_same
  simp -implicitDefEqProofs only [Option.bind_some, Option.map_some, if_true_, if_ff, if_T, if_F, on0_s, on1_s, on2_s, on3_s, on4_s, on5_s, on6_s, asL_l, asL_r, asT_t, asB_b, len_l, len_r, len_t, l_0, l_1, l_2, l_3, l_4, l_5, l_6, l_7, l_8, l_9, l_10, l_11, l_12, l_13, l_14, l_15, l_20, l_21, l_22, l_25, l_26, l_30, l_31, l_32, l_36, l_38, l_40, l_60, l_64, l_70, l_96, l_97, l_100, l_128, l_512, l_7919, int_n, int_i, int_bn, add_n, ix_ln, ix_rn, ix_tn, list_l, list_t, few0, few1, few2, few3, few5, lt_n, gt_n, le_n, eqF_n, neF_n, rng1_m, flT_nx, flT_rt, flF_nx, flE_rt, un2_t, un3_t, tru_l, tru_b, app_n, cap_n, flat_n, flat_bl, optI_n, sl_n, zero_add_, b1, b2, b3, decide_eq_true, Bool.not_true, rng_s (n := xs.length) (by omega)]
  refine (bind_of (forF_unit fun x hx => ?_)).trans rfl
  obtain ⟨i, hi, rfl⟩ := List.mem_map.mp hx
  have hi := List.mem_range.mp hi
  have hs := h xs[i] (List.getElem_mem _)
  simp -implicitDefEqProofs only [Option.bind_some, Option.map_some, if_true_, if_ff, if_T, if_F, on0_s, on1_s, on2_s, on3_s, on4_s, on5_s, on6_s, asL_l, asL_r, asT_t, asB_b, len_l, len_r, len_t, l_0, l_1, l_2, l_3, l_4, l_5, l_6, l_7, l_8, l_9, l_10, l_11, l_12, l_13, l_14, l_15, l_20, l_21, l_22, l_25, l_26, l_30, l_31, l_32, l_36, l_38, l_40, l_60, l_64, l_70, l_96, l_97, l_100, l_128, l_512, l_7919, int_n, int_i, int_bn, add_n, ix_ln, ix_rn, ix_tn, list_l, list_t, few0, few1, few2, few3, few5, lt_n, gt_n, le_n, eqF_n, neF_n, rng1_m, flT_nx, flT_rt, flF_nx, flE_rt, un2_t, un3_t, tru_l, tru_b, app_n, cap_n, flat_n, flat_bl, optI_n, sl_n, zero_add_, List.getElem?_eq_getElem hi, hs, Bool.not_true]
theorem same_ss {f : Nat} (a : List (List Nat)) (h : a.length ≤ 1000) (lw : ∀ l ∈ a, Low l) : m_law_same (f + 2) (ssD a) (ssD a) = some (.bl true) := same_l (by rw [List.length_map]; exact h) fun x hx => by
  obtain ⟨l, hl, rfl⟩ := List.mem_map.mp hx
  exact same_s (lw l hl)
theorem same_sss {f : Nat} (a : List (List (List Nat))) (h : a.length ≤ 1000) (h2 : ∀ l ∈ a, l.length ≤ 1000) (lw : ∀ l ∈ a, ∀ s ∈ l, Low s) : m_law_same (f + 3) (sssD a) (sssD a) = some (.bl true) := same_l (by rw [List.length_map]; exact h) fun x hx => by
  obtain ⟨l, hl, rfl⟩ := List.mem_map.mp hx
  exact same_ss l (h2 l hl) (lw l hl)
theorem same_dl {f : Nat} (a : List Nat) (h : a.length ≤ 1000) : m_law_same (f + 2) (dl a) (dl a) = some (.bl true) := same_l (by rw [dns_len]; exact h) fun x hx => by
  obtain ⟨l, _, rfl⟩ := List.mem_map.mp hx
  exact same_n
theorem same_dll {f : Nat} (a : List (List Nat)) (h : a.length ≤ 1000) (h2 : ∀ l ∈ a, l.length ≤ 1000) : m_law_same (f + 3) (dll a) (dll a) = some (.bl true) := same_l (by rw [List.length_map]; exact h) fun x hx => by
  obtain ⟨l, hl, rfl⟩ := List.mem_map.mp hx
  exact same_dl l (h2 l hl)
theorem kept_low : ∀ w ∈ kept, ∀ c ∈ w, c < 0x110000 := by decide +kernel
theorem NameOk.wok {s : List Nat} (h : NameOk s) : WOk s := ⟨h.ne, fun y => an_sp (h.all 32 y), by have := h.len; omega, h.low⟩
theorem kept_wok {s : List Nat} (h : s ∈ kept) : WOk s := ⟨kept_an s h, kept_sp s h, by have := kept_len s h; omega, kept_low s h⟩
end Oh
namespace Oh
open PySem L2 TL
section
variable {cs : List Nat} {hs : List (List Nat)} {nm : List (List Nat)} {wd : List (List (List Nat))} {v : Nat}
noncomputable def tailN (nm : List (List Nat)) (h : List Nat) : List (List Nat) := (if h = [] then [] else [Wd "hears"] ++ h.map fun u => nm.getD u []) ++ [Wd "end"]
noncomputable def partN (nm : List (List Nat)) (wd : List (List (List Nat))) (hs : List (List Nat)) (v : Nat) : List (List Nat) := ([Wd "variable", nm.getD v [], Wd "says"] ++ wd.getD v []) ++ tailN nm (hv hs v)
noncomputable def partsN (nm : List (List Nat)) (wd : List (List (List Nat))) (hs : List (List Nat)) (n : Nat) : List (List Nat) := (List.range n).foldl (fun s v => s ++ partN nm wd hs v) [Wd "house"]
noncomputable def wordsN (nm : List (List Nat)) (wd : List (List (List Nat))) (hs : List (List Nat)) (n : Nat) : List (List Nat) := partsN nm wd hs n ++ [Wd "end"]
theorem HouseOk.tail_len (h : HouseOk cs hs nm wd) (hv1 : v < cs.length) : (tailN nm (hv hs v)).length ≤ 6 := by
  have := h.hlt hv1
  unfold tailN
  split
  · show 1 ≤ 6; decide
  · rw [List.length_append, List.length_append, List.length_map]
    show 1 + _ + 1 ≤ 6
    omega
theorem HouseOk.part_len (h : HouseOk cs hs nm wd) (hv1 : v < cs.length) : (partN nm wd hs v).length ≤ 12 := by
  have := h.wlt hv1
  have := h.tail_len hv1
  unfold partN
  rw [List.length_append, List.length_append]
  show 3 + _ + _ ≤ 12
  omega
theorem HouseOk.step (h : HouseOk cs hs nm wd) (hv1 : v < cs.length) {s : List (List Nat)} (hs1 : s.length ≤ 1 + 12 * v) : (s ++ partN nm wd hs v).length ≤ 1 + 12 * (v + 1) := by
  have := h.part_len hv1
  rw [List.length_append]
  omega
theorem emp_h {x : List Nat} : (dns x).isEmpty = decide (x = []) := by cases x <;> rfl
theorem parts_le (h : HouseOk cs hs nm wd) : ∀ n, n ≤ cs.length → (partsN nm wd hs n).length ≤ 1 + 12 * n := fun n => by
  induction n with
  | zero => intro _; exact (show 1 ≤ 1 by decide)
  | succ n ih =>
    intro hn
    have : partsN nm wd hs (n + 1) = partsN nm wd hs n ++ partN nm wd hs n := by unfold partsN; rw [List.range_succ, List.foldl_append]; rfl
    rw [this]
    exact h.step (by omega) (ih (by omega))
theorem HouseOk.lwords (h : HouseOk cs hs nm wd) : m_law_text_words (.tup [ssD nm, sssD wd, dll hs]) = some (ssD (wordsN nm wd hs cs.length)) := by
  have hi := h.shp.hi
  have hnl := h.nm.len
  unfold m_law_text_words
  simp -implicitDefEqProofs only [Option.bind_some, Option.map_some, if_true_, if_ff, if_T, if_F, on0_s, on1_s, on2_s, on3_s, on4_s, on5_s, on6_s, asL_l, asL_r, asT_t, asB_b, len_l, len_r, len_t, l_0, l_1, l_2, l_3, l_4, l_5, l_6, l_7, l_8, l_9, l_10, l_11, l_12, l_13, l_14, l_15, l_20, l_21, l_22, l_25, l_26, l_30, l_31, l_32, l_36, l_38, l_40, l_60, l_64, l_70, l_96, l_97, l_100, l_128, l_512, l_7919, int_n, int_i, int_bn, add_n, ix_ln, ix_rn, ix_tn, list_l, list_t, few0, few1, few2, few3, few5, lt_n, gt_n, le_n, eqF_n, neF_n, rng1_m, flT_nx, flT_rt, flF_nx, flE_rt, un2_t, un3_t, tru_l, tru_b, app_n, cap_n, flat_n, flat_bl, optI_n, sl_n, zero_add_, lit_s, hnl, List.length_map, rng_s (n := cs.length) (by omega)]
  refine (bind_of (forS_dns (s := [Wd "house"]) ssD (fun s v => s ++ partN nm wd hs v) (fun v s => s.length ≤ 1 + 12 * v) (by decide) (fun v s hv1 hs1 => ⟨?_, h.step hv1 hs1⟩)).1).trans ?_
  · have wl := h.wlt hv1
    have hl4 := h.hlt hv1
    have e1 : dCat (ssD s) (.lst [sD (Wd "variable"), sD (nm.getD v []), sD (Wd "says")]) = some (ssD (s ++ [Wd "variable", nm.getD v [], Wd "says"])) := catW (b := [Wd "variable", nm.getD v [], Wd "says"]) (by show _ + 3 ≤ 100000; omega)
    have e2 : dCat (ssD (s ++ [Wd "variable", nm.getD v [], Wd "says"])) (ssD (wd.getD v [])) = some (ssD (s ++ [Wd "variable", nm.getD v [], Wd "says"] ++ wd.getD v [])) := catW (by rw [List.length_append]; show _ + 3 + _ ≤ 100000; omega)
    simp -implicitDefEqProofs only [Option.bind_some, Option.map_some, if_true_, if_ff, if_T, if_F, on0_s, on1_s, on2_s, on3_s, on4_s, on5_s, on6_s, asL_l, asL_r, asT_t, asB_b, len_l, len_r, len_t, l_0, l_1, l_2, l_3, l_4, l_5, l_6, l_7, l_8, l_9, l_10, l_11, l_12, l_13, l_14, l_15, l_20, l_21, l_22, l_25, l_26, l_30, l_31, l_32, l_36, l_38, l_40, l_60, l_64, l_70, l_96, l_97, l_100, l_128, l_512, l_7919, int_n, int_i, int_bn, add_n, ix_ln, ix_rn, ix_tn, list_l, list_t, few0, few1, few2, few3, few5, lt_n, gt_n, le_n, eqF_n, neF_n, rng1_m, flT_nx, flT_rt, flF_nx, flE_rt, un2_t, un3_t, tru_l, tru_b, app_n, cap_n, flat_n, flat_bl, optI_n, sl_n, zero_add_, ls_at (ls := nm) (i := v) (by omega), lss_at (ls := wd) (i := v) (by rw [h.wdl]; exact hv1), dll_at (hv_get (hs := hs) (v := v) (by rw [h.shp.len]; exact hv1)), e1, e2, emp_h]
    have sl : (s ++ [Wd "variable", nm.getD v [], Wd "says"] ++ wd.getD v []).length ≤ 100 := by
      rw [List.length_append, List.length_append]; show _ + 3 + _ ≤ 100; omega
    generalize eS : s ++ [Wd "variable", nm.getD v [], Wd "says"] ++ wd.getD v [] = s2 at sl
    have fin : s ++ partN nm wd hs v = s2 ++ tailN nm (hv hs v) := by rw [← eS]; unfold partN; simp only [List.append_assoc]
    rw [fin]
    unfold tailN
    by_cases z : hv hs v = []
    · have e3 : dCat (ssD s2) (.lst [sD (Wd "end")]) = some (ssD (s2 ++ [Wd "end"])) := catW (b := [Wd "end"]) (by show _ + 1 ≤ 100000; omega)
      rw [if_pos z, decide_eq_true z]
      simp -implicitDefEqProofs only [Option.bind_some, Option.map_some, if_true_, if_ff, if_T, if_F, on0_s, on1_s, on2_s, on3_s, on4_s, on5_s, on6_s, asL_l, asL_r, asT_t, asB_b, len_l, len_r, len_t, l_0, l_1, l_2, l_3, l_4, l_5, l_6, l_7, l_8, l_9, l_10, l_11, l_12, l_13, l_14, l_15, l_20, l_21, l_22, l_25, l_26, l_30, l_31, l_32, l_36, l_38, l_40, l_60, l_64, l_70, l_96, l_97, l_100, l_128, l_512, l_7919, int_n, int_i, int_bn, add_n, ix_ln, ix_rn, ix_tn, list_l, list_t, few0, few1, few2, few3, few5, lt_n, gt_n, le_n, eqF_n, neF_n, rng1_m, flT_nx, flT_rt, flF_nx, flE_rt, un2_t, un3_t, tru_l, tru_b, app_n, cap_n, flat_n, flat_bl, optI_n, sl_n, zero_add_, Bool.not_true, e3, List.nil_append]
    · have e3 : dCat (ssD s2) (.lst [sD (Wd "hears")]) = some (ssD (s2 ++ [Wd "hears"])) := catW (b := [Wd "hears"]) (by show _ + 1 ≤ 100000; omega)
      have e4 : dCat (ssD (s2 ++ [Wd "hears"])) (ssD ((hv hs v).map fun u => nm.getD u [])) = some (ssD (s2 ++ [Wd "hears"] ++ (hv hs v).map fun u => nm.getD u [])) := catW (by rw [List.length_append, List.length_map]; show _ + 1 + _ ≤ 100000; omega)
      have e5 : dCat (ssD (s2 ++ [Wd "hears"] ++ (hv hs v).map fun u => nm.getD u [])) (.lst [sD (Wd "end")]) = some (ssD (s2 ++ [Wd "hears"] ++ ((hv hs v).map fun u => nm.getD u []) ++ [Wd "end"])) := catW (b := [Wd "end"]) (by rw [List.length_append, List.length_append, List.length_map]; show _ + 1 + _ + 1 ≤ 100000; omega)
      rw [if_neg z, decide_eq_false z]
      simp -implicitDefEqProofs only [Option.bind_some, Option.map_some, if_true_, if_ff, if_T, if_F, on0_s, on1_s, on2_s, on3_s, on4_s, on5_s, on6_s, asL_l, asL_r, asT_t, asB_b, len_l, len_r, len_t, l_0, l_1, l_2, l_3, l_4, l_5, l_6, l_7, l_8, l_9, l_10, l_11, l_12, l_13, l_14, l_15, l_20, l_21, l_22, l_25, l_26, l_30, l_31, l_32, l_36, l_38, l_40, l_60, l_64, l_70, l_96, l_97, l_100, l_128, l_512, l_7919, int_n, int_i, int_bn, add_n, ix_ln, ix_rn, ix_tn, list_l, list_t, few0, few1, few2, few3, few5, lt_n, gt_n, le_n, eqF_n, neF_n, rng1_m, flT_nx, flT_rt, flF_nx, flE_rt, un2_t, un3_t, tru_l, tru_b, app_n, cap_n, flat_n, flat_bl, optI_n, sl_n, zero_add_, Bool.not_false, e3, capM_s (xs := dns (hv hs v)) (by rw [dns_len]; omega), names_comp (nm := nm) (h := hv hs v) (fun u hu => by have := h.shp.lt v u hu; omega), e4, e5]
      simp only [List.append_assoc]
  · have := parts_le h cs.length (Nat.le_refl _)
    exact catW (a := partsN nm wd hs cs.length) (b := [Wd "end"]) (by show _ + 1 ≤ 100000; omega)
theorem HouseOk.part_all (h : HouseOk cs hs nm wd) (hv1 : v < cs.length) : ∀ s ∈ partN nm wd hs v, s ∈ kept ∨ NameOk s := fun s hs1 => by
  have hn : ∀ u, u < cs.length → NameOk (nm.getD u []) := fun u hu => by
    rw [List.getD_eq_getElem?_getD, List.getElem?_eq_getElem (by rw [h.nm.len]; exact hu)]
    exact h.nm.ok _ (List.getElem_mem _)
  unfold partN tailN at hs1
  rcases List.mem_append.mp hs1 with z | z
  · rcases List.mem_append.mp z with y | y
    · rcases List.mem_cons.mp y with e | y
      · rw [e]; exact .inl (by decide +kernel)
      · rcases List.mem_cons.mp y with e | y
        · rw [e]; exact .inr (hn v hv1)
        · rw [List.mem_singleton.mp y]; exact .inl (by decide +kernel)
    · exact .inr ((h.wd v hv1).ok s y)
  · rcases List.mem_append.mp z with y | y
    · split at y
      · cases y
      · rcases List.mem_append.mp y with e | e
        · rw [List.mem_singleton.mp e]; exact .inl (by decide +kernel)
        · obtain ⟨u, hu, rfl⟩ := List.mem_map.mp e
          have := h.shp.lt v u hu
          exact .inr (hn u (by omega))
    · rw [List.mem_singleton.mp y]; exact .inl (by decide +kernel)
theorem HouseOk.parts_all (h : HouseOk cs hs nm wd) : ∀ n, n ≤ cs.length → ∀ s ∈ partsN nm wd hs n, s ∈ kept ∨ NameOk s := fun n => by
  induction n with
  | zero => intro _ s hs1; rw [List.mem_singleton.mp hs1]; exact .inl (by decide +kernel)
  | succ n ih =>
    intro hn s hs1
    have : partsN nm wd hs (n + 1) = partsN nm wd hs n ++ partN nm wd hs n := by unfold partsN; rw [List.range_succ, List.foldl_append]; rfl
    rw [this] at hs1
    rcases List.mem_append.mp hs1 with z | z
    · exact ih (by omega) s z
    · exact h.part_all (by omega) s z
theorem HouseOk.words_all (h : HouseOk cs hs nm wd) : ∀ s ∈ wordsN nm wd hs cs.length, s ∈ kept ∨ NameOk s := fun s hs1 => by
  rcases List.mem_append.mp hs1 with z | z
  · exact h.parts_all _ (Nat.le_refl _) s z
  · rw [List.mem_singleton.mp z]; exact .inl (by decide +kernel)
theorem HouseOk.words_le (h : HouseOk cs hs nm wd) : (wordsN nm wd hs cs.length).length ≤ 62 := by
  have := parts_le h cs.length (Nat.le_refl _)
  have := h.shp.hi
  unfold wordsN
  rw [List.length_append]
  show _ + 1 ≤ 62
  omega
end
section
variable {cs : List Nat} {hs : List (List Nat)} {nm : List (List Nat)} {wd : List (List (List Nat))} {v : Nat}
theorem HouseOk.wdm (h : HouseOk cs hs nm wd) : ∀ l ∈ wd, l.length ≤ 3 := fun l hl => by
  obtain ⟨i, hi⟩ := List.getElem?_of_mem hl
  have hil := (List.getElem?_eq_some_iff.mp hi).1
  have := h.wlt (v := i) (by rw [← h.wdl]; exact hil)
  rw [List.getD_eq_getElem?_getD, hi] at this
  exact this
theorem HouseOk.wdo (h : HouseOk cs hs nm wd) : ∀ l ∈ wd, ∀ s ∈ l, NameOk s := fun l hl s hs1 => by
  obtain ⟨i, hi⟩ := List.getElem?_of_mem hl
  have hil := (List.getElem?_eq_some_iff.mp hi).1
  have := (h.wd i (by rw [← h.wdl]; exact hil)).ok s
  rw [List.getD_eq_getElem?_getD, hi] at this
  exact this hs1
theorem HouseOk.hsm (h : HouseOk cs hs nm wd) : ∀ l ∈ hs, l.length ≤ 4 := fun l hl => by
  obtain ⟨i, hi⟩ := List.getElem?_of_mem hl
  have hil := (List.getElem?_eq_some_iff.mp hi).1
  have := h.hlt (v := i) (by rw [← h.shp.len]; exact hil)
  unfold hv at this
  rw [List.getD_eq_getElem?_getD, hi] at this
  exact this
theorem isO_h : dIsO 1 (houseV nm wd hs) = some (.bl true) := rfl
theorem HouseOk.same (h : HouseOk cs hs nm wd) : m_law_same_house (houseV nm wd hs) (.tup [ssD nm, sssD wd, dll hs]) = some (.bl true) := by
  have hi := h.shp.hi
  have s1 : m_law_same 12 (ssD nm) (ssD nm) = some (.bl true) := same_ss nm (by rw [h.nm.len]; omega) fun l hl => (h.nm.ok l hl).low
  have s2 : m_law_same 12 (sssD wd) (sssD wd) = some (.bl true) := same_sss wd (by rw [h.wdl]; omega) (fun l hl => by have := h.wdm l hl; omega) fun l hl s hs => (h.wdo l hl s hs).low
  have s3 : m_law_same 12 (dll hs) (dll hs) = some (.bl true) := same_dll hs (by rw [h.shp.len]; omega) fun l hl => by have := h.hsm l hl; omega
  have g0 : ([ssD nm, sssD wd, dll hs] : List D)[0]? = some (ssD nm) := rfl
  have g1 : ([ssD nm, sssD wd, dll hs] : List D)[1]? = some (sssD wd) := rfl
  have g2 : ([ssD nm, sssD wd, dll hs] : List D)[2]? = some (dll hs) := rfl
  unfold m_law_same_house
  simp -implicitDefEqProofs only [Option.bind_some, Option.map_some, if_true_, if_ff, if_T, if_F, on0_s, on1_s, on2_s, on3_s, on4_s, on5_s, on6_s, asL_l, asL_r, asT_t, asB_b, len_l, len_r, len_t, l_0, l_1, l_2, l_3, l_4, l_5, l_6, l_7, l_8, l_9, l_10, l_11, l_12, l_13, l_14, l_15, l_20, l_21, l_22, l_25, l_26, l_30, l_31, l_32, l_36, l_38, l_40, l_60, l_64, l_70, l_96, l_97, l_100, l_128, l_512, l_7919, int_n, int_i, int_bn, add_n, ix_ln, ix_rn, ix_tn, list_l, list_t, few0, few1, few2, few3, few5, lt_n, gt_n, le_n, eqF_n, neF_n, rng1_m, flT_nx, flT_rt, flF_nx, flE_rt, un2_t, un3_t, tru_l, tru_b, app_n, cap_n, flat_n, flat_bl, optI_n, sl_n, zero_add_, isO_h, Bool.not_true, fldV_n, fldV_w, fldV_h, g0, g1, g2, s1, s2, s3]
/-! the number of ways -/
theorem size2_ok {bs : List Nat} (h : ∀ b ∈ bs, b < 2 ^ 64) : m_size (dl bs) = some (dn (prodN bs)) := by
  unfold m_size
  simp -implicitDefEqProofs only [Option.bind_some, Option.map_some, if_true_, if_ff, if_T, if_F, on0_s, on1_s, on2_s, on3_s, on4_s, on5_s, on6_s, asL_l, asL_r, asT_t, asB_b, len_l, len_r, len_t, l_0, l_1, l_2, l_3, l_4, l_5, l_6, l_7, l_8, l_9, l_10, l_11, l_12, l_13, l_14, l_15, l_20, l_21, l_22, l_25, l_26, l_30, l_31, l_32, l_36, l_38, l_40, l_60, l_64, l_70, l_96, l_97, l_100, l_128, l_512, l_7919, int_n, int_i, int_bn, add_n, ix_ln, ix_rn, ix_tn, list_l, list_t, few0, few1, few2, few3, few5, lt_n, gt_n, le_n, eqF_n, neF_n, rng1_m, flT_nx, flT_rt, flF_nx, flE_rt, un2_t, un3_t, tru_l, tru_b, app_n, cap_n, flat_n, flat_bl, optI_n, sl_n, zero_add_]
  exact bind_of (forS_foldl dn dn (fun a b => a * b) (fun _ => True) (xs := bs) (s := 1) trivial fun s x hx _ => ⟨by simp -implicitDefEqProofs only [Option.bind_some, Option.map_some, if_true_, if_ff, if_T, if_F, on0_s, on1_s, on2_s, on3_s, on4_s, on5_s, on6_s, asL_l, asL_r, asT_t, asB_b, len_l, len_r, len_t, l_0, l_1, l_2, l_3, l_4, l_5, l_6, l_7, l_8, l_9, l_10, l_11, l_12, l_13, l_14, l_15, l_20, l_21, l_22, l_25, l_26, l_30, l_31, l_32, l_36, l_38, l_40, l_60, l_64, l_70, l_96, l_97, l_100, l_128, l_512, l_7919, int_n, int_i, int_bn, add_n, ix_ln, ix_rn, ix_tn, list_l, list_t, few0, few1, few2, few3, few5, lt_n, gt_n, le_n, eqF_n, neF_n, rng1_m, flT_nx, flT_rt, flF_nx, flE_rt, un2_t, un3_t, tru_l, tru_b, app_n, cap_n, flat_n, flat_bl, optI_n, sl_n, zero_add_, mul_n (h x hx)], trivial⟩).1
theorem HouseOk.hb (h : HouseOk cs hs nm wd) (hv1 : v < cs.length) : m_heard_bounds (houseV nm wd hs) (dn v) = some (dl (bnd cs (hv hs v))) := by
  have hl := h.hlt hv1
  unfold m_heard_bounds
  simp -implicitDefEqProofs only [Option.bind_some, Option.map_some, if_true_, if_ff, if_T, if_F, on0_s, on1_s, on2_s, on3_s, on4_s, on5_s, on6_s, asL_l, asL_r, asT_t, asB_b, len_l, len_r, len_t, l_0, l_1, l_2, l_3, l_4, l_5, l_6, l_7, l_8, l_9, l_10, l_11, l_12, l_13, l_14, l_15, l_20, l_21, l_22, l_25, l_26, l_30, l_31, l_32, l_36, l_38, l_40, l_60, l_64, l_70, l_96, l_97, l_100, l_128, l_512, l_7919, int_n, int_i, int_bn, add_n, ix_ln, ix_rn, ix_tn, list_l, list_t, few0, few1, few2, few3, few5, lt_n, gt_n, le_n, eqF_n, neF_n, rng1_m, flT_nx, flT_rt, flF_nx, flE_rt, un2_t, un3_t, tru_l, tru_b, app_n, cap_n, flat_n, flat_bl, optI_n, sl_n, zero_add_, fldV_h, fldV_w, dll_at (hv_get (hs := hs) (v := v) (by rw [h.shp.len]; exact hv1)), capM_s (xs := dns (hv hs v)) (by rw [dns_len]; omega)]
  refine map_of ((compD_dns (fun u => dn (ct cs u)) fun u hu => ?_).trans (by rw [bnd_dns]))
  have hu2 := h.shp.hin hv1 u hu
  simp -implicitDefEqProofs only [Option.bind_some, Option.map_some, if_true_, if_ff, if_T, if_F, on0_s, on1_s, on2_s, on3_s, on4_s, on5_s, on6_s, asL_l, asL_r, asT_t, asB_b, len_l, len_r, len_t, l_0, l_1, l_2, l_3, l_4, l_5, l_6, l_7, l_8, l_9, l_10, l_11, l_12, l_13, l_14, l_15, l_20, l_21, l_22, l_25, l_26, l_30, l_31, l_32, l_36, l_38, l_40, l_60, l_64, l_70, l_96, l_97, l_100, l_128, l_512, l_7919, int_n, int_i, int_bn, add_n, ix_ln, ix_rn, ix_tn, list_l, list_t, few0, few1, few2, few3, few5, lt_n, gt_n, le_n, eqF_n, neF_n, rng1_m, flT_nx, flT_rt, flF_nx, flE_rt, un2_t, un3_t, tru_l, tru_b, app_n, cap_n, flat_n, flat_bl, optI_n, sl_n, zero_add_, lss_at (ls := wd) (i := u) (by rw [h.wdl]; exact hu2), List.length_map, (h.wd u hu2).len]
noncomputable def ansN (cs : List Nat) (hs : List (List Nat)) (n : Nat) : List Nat := (List.range n).foldl (fun s v => s ++ List.replicate (szN cs hs v) (ct cs v)) []
theorem ans_succ (n : Nat) : ansN cs hs (n + 1) = ansN cs hs n ++ List.replicate (szN cs hs n) (ct cs n) := by
  unfold ansN
  rw [List.range_succ, List.foldl_append]; rfl
theorem prod_app (a b : List Nat) : prodN (a ++ b) = prodN a * prodN b := by
  induction a with
  | nil => exact (Nat.one_mul _).symm
  | cons x a ih => rw [List.cons_append, prod_cons, prod_cons, ih, Nat.mul_assoc]
theorem prod_rep (n c : Nat) : prodN (List.replicate n c) = c ^ n := by
  induction n with
  | zero => rfl
  | succ n ih => rw [List.replicate_succ, prod_cons, ih, Nat.pow_succ, Nat.mul_comm]
theorem ans_prod : prodN (ansN cs hs cs.length) = wayN cs hs := by
  have key : ∀ n, prodN (ansN cs hs n) = (List.range n).foldl (fun m v => m * ct cs v ^ szN cs hs v) 1 := fun n => by
    induction n with
    | zero => rfl
    | succ n ih => rw [ans_succ, prod_app, prod_rep, ih, List.range_succ, List.foldl_append]; rfl
  exact key _
theorem rep_fl (c : Nat) : ∀ k : Nat, (List.replicate k [dn c]).flatten = dns (List.replicate k c)
  | 0 => rfl
  | k + 1 => by rw [List.replicate_succ, List.flatten_cons, rep_fl c k]; rfl
theorem rep_0 (xs : List D) (k : Int) : dRep (.lst xs) (.int k) = if -(2 ^ 63) ≤ k ∧ k < 2 ^ 63 ∧ xs.length * k.toNat ≤ 100000 then some (.lst (List.replicate k.toNat xs).flatten) else none := rfl
theorem rep_n (c k : Nat) (h : k ≤ 1000) : dRep (.lst [dn c]) (dn k) = some (dl (List.replicate k c)) := by
  refine (rep_0 [dn c] (k : Int)).trans ?_
  have e : ((k : Nat) : Int).toNat = k := Int.toNat_natCast k
  rw [e, if_pos ⟨by omega, by omega, by rw [show [dn c].length = 1 from rfl]; omega⟩, rep_fl]
theorem HouseOk.ways (h : HouseOk cs hs nm wd) : m_way_count (houseV nm wd hs) = some (dn (wayN cs hs)) := by
  have hi := h.shp.hi
  have e1 : m_answer_bounds (houseV nm wd hs) = some (dl (ansN cs hs cs.length)) := by
    unfold m_answer_bounds
    simp -implicitDefEqProofs only [Option.bind_some, Option.map_some, if_true_, if_ff, if_T, if_F, on0_s, on1_s, on2_s, on3_s, on4_s, on5_s, on6_s, asL_l, asL_r, asT_t, asB_b, len_l, len_r, len_t, l_0, l_1, l_2, l_3, l_4, l_5, l_6, l_7, l_8, l_9, l_10, l_11, l_12, l_13, l_14, l_15, l_20, l_21, l_22, l_25, l_26, l_30, l_31, l_32, l_36, l_38, l_40, l_60, l_64, l_70, l_96, l_97, l_100, l_128, l_512, l_7919, int_n, int_i, int_bn, add_n, ix_ln, ix_rn, ix_tn, list_l, list_t, few0, few1, few2, few3, few5, lt_n, gt_n, le_n, eqF_n, neF_n, rng1_m, flT_nx, flT_rt, flF_nx, flE_rt, un2_t, un3_t, tru_l, tru_b, app_n, cap_n, flat_n, flat_bl, optI_n, sl_n, zero_add_, fldV_n, fldV_w, List.length_map, h.nm.len, rng_s (n := cs.length) (by omega)]
    refine bind_of (forS_dns (s := []) dl (fun s v => s ++ List.replicate (szN cs hs v) (ct cs v)) (fun v s => s.length ≤ 81 * v) (Nat.le_refl _) (fun v s hv1 hs1 => ⟨?_, ?_⟩)).1
    · have sz := h.shp.sz_le hv1
      have e2 : m_size (dl (bnd cs (hv hs v))) = some (dn (szN cs hs v)) := size2_ok fun b hb => by have := h.shp.bnd23 (h.shp.hin hv1) b hb; omega
      have e3 : dExt (dl s) (dl (List.replicate (szN cs hs v) (ct cs v))) = some (dl (s ++ List.replicate (szN cs hs v) (ct cs v))) := by
        show (if (dns s).length + (dns (List.replicate (szN cs hs v) (ct cs v))).length ≤ 100000 then some (D.lst (dns s ++ dns (List.replicate (szN cs hs v) (ct cs v)))) else none) = _
        rw [dns_len, dns_len, List.length_replicate, if_pos (by omega)]
        exact congrArg (fun z => some (D.lst z)) List.map_append.symm
      simp -implicitDefEqProofs only [Option.bind_some, Option.map_some, if_true_, if_ff, if_T, if_F, on0_s, on1_s, on2_s, on3_s, on4_s, on5_s, on6_s, asL_l, asL_r, asT_t, asB_b, len_l, len_r, len_t, l_0, l_1, l_2, l_3, l_4, l_5, l_6, l_7, l_8, l_9, l_10, l_11, l_12, l_13, l_14, l_15, l_20, l_21, l_22, l_25, l_26, l_30, l_31, l_32, l_36, l_38, l_40, l_60, l_64, l_70, l_96, l_97, l_100, l_128, l_512, l_7919, int_n, int_i, int_bn, add_n, ix_ln, ix_rn, ix_tn, list_l, list_t, few0, few1, few2, few3, few5, lt_n, gt_n, le_n, eqF_n, neF_n, rng1_m, flT_nx, flT_rt, flF_nx, flE_rt, un2_t, un3_t, tru_l, tru_b, app_n, cap_n, flat_n, flat_bl, optI_n, sl_n, zero_add_, lss_at (ls := wd) (i := v) (by rw [h.wdl]; exact hv1), List.length_map, (h.wd v hv1).len, h.hb hv1, e2, rep_n (ct cs v) (szN cs hs v) (by omega), e3]
    · have sz := h.shp.sz_le hv1
      rw [List.length_append, List.length_replicate]; omega
  unfold m_way_count
  simp -implicitDefEqProofs only [Option.bind_some, Option.map_some, if_true_, if_ff, if_T, if_F, on0_s, on1_s, on2_s, on3_s, on4_s, on5_s, on6_s, asL_l, asL_r, asT_t, asB_b, len_l, len_r, len_t, l_0, l_1, l_2, l_3, l_4, l_5, l_6, l_7, l_8, l_9, l_10, l_11, l_12, l_13, l_14, l_15, l_20, l_21, l_22, l_25, l_26, l_30, l_31, l_32, l_36, l_38, l_40, l_60, l_64, l_70, l_96, l_97, l_100, l_128, l_512, l_7919, int_n, int_i, int_bn, add_n, ix_ln, ix_rn, ix_tn, list_l, list_t, few0, few1, few2, few3, few5, lt_n, gt_n, le_n, eqF_n, neF_n, rng1_m, flT_nx, flT_rt, flF_nx, flE_rt, un2_t, un3_t, tru_l, tru_b, app_n, cap_n, flat_n, flat_bl, optI_n, sl_n, zero_add_, e1]
  rw [size2_ok, ans_prod]
  have key : ∀ n, n ≤ cs.length → ∀ b ∈ ansN cs hs n, b < 2 ^ 64 := fun n => by
    induction n with
    | zero => intro _ b hb; cases hb
    | succ n ih =>
      intro hn b hb
      rw [ans_succ] at hb
      rcases List.mem_append.mp hb with z | z
      · exact ih (by omega) b z
      · rw [List.eq_of_mem_replicate z]
        have := h.shp.ct23 (v := n) (by omega)
        omega
  exact key _ (Nat.le_refl _)
end
end Oh
namespace Oh
open PySem L2 TL
/-! ### words found in a list -/
noncomputable def ixN (l : List (List Nat)) (a : List Nat) : Option Nat := l.findIdx? fun y => decide (y = a)
theorem ix_none {l : List (List Nat)} {a : List Nat} (h : ixN l a = none) : a ∉ l := fun hm => by
  have := List.findIdx?_eq_none_iff.mp h a hm
  simp at this
theorem ix_no {l : List (List Nat)} {a : List Nat} (h : a ∉ l) : ixN l a = none := List.findIdx?_eq_none_iff.mpr fun x hx => by
  simp only [decide_eq_false_iff_not]
  exact fun z => h (z ▸ hx)
theorem ix_some {l : List (List Nat)} {a : List Nat} {j : Nat} (h : ixN l a = some j) : l[j]? = some a := by
  obtain ⟨hj, h1, _⟩ := List.findIdx?_eq_some_iff_getElem.mp h
  rw [List.getElem?_eq_getElem hj, of_decide_eq_true h1]
theorem ix_lt {l : List (List Nat)} {a : List Nat} {j : Nat} (h : ixN l a = some j) : j < l.length := (List.getElem?_eq_some_iff.mp (ix_some h)).1
theorem ix_mem {l : List (List Nat)} {a : List Nat} {j : Nat} (h : ixN l a = some j) : a ∈ l := List.mem_of_getElem? (ix_some h)
theorem ix_of {l : List (List Nat)} {a : List Nat} {j : Nat} (hj : l[j]? = some a) (hn : l.Nodup) : ixN l a = some j := by
  cases e : ixN l a with
  | none => exact absurd (List.mem_of_getElem? hj) (ix_none e)
  | some i =>
    have hi := ix_some e
    have h1 := (List.getElem?_eq_some_iff.mp hi).1
    have h2 := (List.getElem?_eq_some_iff.mp hj).1
    have := (List.getElem_inj (h₀ := h1) (h₁ := h2) hn).mp ((List.getElem?_eq_some_iff.mp hi).2.trans (List.getElem?_eq_some_iff.mp hj).2.symm)
    rw [this]
theorem ix_drop {l : List (List Nat)} {a : List Nat} {lo : Nat} (hn : l.Nodup) : ixN (l.drop lo) a = (ixN l a).bind fun v => if v < lo then none else some (v - lo) := by
  cases e : ixN l a with
  | none => exact ix_no fun z => ix_none e (List.mem_of_mem_drop z)
  | some v =>
    have hv := ix_some e
    show _ = if v < lo then none else some (v - lo)
    by_cases h : v < lo
    · rw [if_pos h]
      refine ix_no fun z => ?_
      obtain ⟨j, hj⟩ := List.getElem?_of_mem z
      rw [List.getElem?_drop] at hj
      have h1 := ix_of hj hn
      rw [e] at h1
      cases h1
      omega
    · rw [if_neg h]
      exact ix_of (by rw [List.getElem?_drop, show lo + (v - lo) = v by omega]; exact hv) (hn.sublist (List.drop_sublist _ _))
theorem findIdx_map {l : List (List Nat)} {a : List Nat} : ((l.map fun l => (Sum.inr (sS l) : Int ⊕ Str)).findIdx? fun y => decide (y = Sum.inr (sS a))) = ixN l a := by
  unfold ixN
  rw [List.findIdx?_map]
  refine congrArg (fun f => List.findIdx? f l) (funext fun y => ?_)
  show decide (Sum.inr (sS y) = Sum.inr (sS a)) = decide (y = a)
  by_cases h : y = a
  · subst h; rw [decide_eq_true rfl, decide_eq_true rfl]
  · rw [decide_eq_false h, decide_eq_false fun z => h (sS_inj (Sum.inr.inj z))]
theorem index_f {a : List Nat} {ls : List (List Nat)} : dIndex (ssD ls) (sD a) = (ixN ls a).map dn := by
  show ((kysD (ls.map sD)).bind fun ks => (some (Sum.inr (sS a))).bind fun k => (ks.findIdx? fun y => decide (y = k)).map fun j => D.int (j : Nat)) = _
  rw [kys_s]
  show ((ls.map fun l => (Sum.inr (sS l) : Int ⊕ Str)).findIdx? fun y => decide (y = Sum.inr (sS a))).map (fun j => D.int (j : Nat)) = _
  rw [findIdx_map]
/-! ### outcomes -/
theorem then_ok {β γ : Type} {b : β} {k : β → Rs γ} : thenR (some (.ok b)) k = k b := rfl
theorem then_er {β γ : Type} {x : Xd} {k : β → Rs γ} : thenR (some (.error x)) k = some (.error x) := rfl
theorem okR_s {β : Type} {b : β} : okR (some b) = some (.ok b) := rfl
theorem rif_f {mx : Rs Unit} : raiseIf (some false) mx = some (.ok ()) := rfl
theorem rif_t {x : Xd} : raiseIf (some true) (some (.error x)) = some (.error x) := rfl
theorem err_n {β : Type} {kb i : Nat} (h : i ≤ 1000) : (errI kb (dn i) : Rs β) = some (.error (.fl kb i)) := by
  have hc : 0 ≤ (i : Int) ∧ (i : Int) < 1000000 := ⟨by omega, by omega⟩
  unfold errI
  exact if_pos hc
noncomputable def toE {α β : Type} (r : Except Nat α) (f : α → β) : Rs β := match r with | .ok a => some (.ok (f a)) | .error k => some (.error (.fl 2 k))
/-! ### the reader -/
section
variable {ws : List (List Nat)} {i : Nat} {w : List Nat}
theorem coming_ok (hi : i ≤ ws.length) : m_Reader_coming (rdV ws i) = some (sD (ws.getD i [])) := by
  by_cases h : i < ws.length
  · exact coming_ok0 (by rw [List.getD_eq_getElem?_getD, List.getElem?_eq_getElem h]; rfl)
  · have e : i = ws.length := by omega
    unfold m_Reader_coming
    simp -implicitDefEqProofs only [Option.bind_some, Option.map_some, if_true_, if_ff, if_T, if_F, on0_s, on1_s, on2_s, on3_s, on4_s, on5_s, on6_s, asL_l, asL_r, asT_t, asB_b, len_l, len_r, len_t, l_0, l_1, l_2, l_3, l_4, l_5, l_6, l_7, l_8, l_9, l_10, l_11, l_12, l_13, l_14, l_15, l_20, l_21, l_22, l_25, l_26, l_30, l_31, l_32, l_36, l_38, l_40, l_60, l_64, l_70, l_96, l_97, l_100, l_128, l_512, l_7919, int_n, int_i, int_bn, add_n, ix_ln, ix_rn, ix_tn, list_l, list_t, few0, few1, few2, few3, few5, lt_n, gt_n, le_n, eqF_n, neF_n, rng1_m, flT_nx, flT_rt, flF_nx, flE_rt, un2_t, un3_t, tru_l, tru_b, app_n, cap_n, flat_n, flat_bl, optI_n, sl_n, zero_add_, mt1, ended_ok, decide_eq_true e, lit_s]
    rw [List.getD_eq_getElem?_getD, List.getElem?_eq_none (by omega)]; rfl
theorem take_e {al : List (List Nat)} (hi : i ≤ ws.length) (hw : ws.length ≤ 1000) : e_Reader_take (rdV ws i) (ssD al) = if ws.getD i [] ∈ al then some (.ok (sD (ws.getD i []), rdV ws (i + 1))) else some (.error (.fl 2 i)) := by
  unfold e_Reader_take r_Reader_take
  simp -implicitDefEqProofs only [Option.bind_some, Option.map_some, if_true_, if_ff, if_T, if_F, on0_s, on1_s, on2_s, on3_s, on4_s, on5_s, on6_s, asL_l, asL_r, asT_t, asB_b, len_l, len_r, len_t, l_0, l_1, l_2, l_3, l_4, l_5, l_6, l_7, l_8, l_9, l_10, l_11, l_12, l_13, l_14, l_15, l_20, l_21, l_22, l_25, l_26, l_30, l_31, l_32, l_36, l_38, l_40, l_60, l_64, l_70, l_96, l_97, l_100, l_128, l_512, l_7919, int_n, int_i, int_bn, add_n, ix_ln, ix_rn, ix_tn, list_l, list_t, few0, few1, few2, few3, few5, lt_n, gt_n, le_n, eqF_n, neF_n, rng1_m, flT_nx, flT_rt, flF_nx, flE_rt, un2_t, un3_t, tru_l, tru_b, app_n, cap_n, flat_n, flat_bl, optI_n, sl_n, zero_add_, mt2, coming_ok hi, flat_s, okR_s, then_ok, nin_s]
  by_cases h : ws.getD i [] ∈ al
  · rw [if_pos h]
    simp -implicitDefEqProofs only [Option.bind_some, Option.map_some, if_true_, if_ff, if_T, if_F, on0_s, on1_s, on2_s, on3_s, on4_s, on5_s, on6_s, asL_l, asL_r, asT_t, asB_b, len_l, len_r, len_t, l_0, l_1, l_2, l_3, l_4, l_5, l_6, l_7, l_8, l_9, l_10, l_11, l_12, l_13, l_14, l_15, l_20, l_21, l_22, l_25, l_26, l_30, l_31, l_32, l_36, l_38, l_40, l_60, l_64, l_70, l_96, l_97, l_100, l_128, l_512, l_7919, int_n, int_i, int_bn, add_n, ix_ln, ix_rn, ix_tn, list_l, list_t, few0, few1, few2, few3, few5, lt_n, gt_n, le_n, eqF_n, neF_n, rng1_m, flT_nx, flT_rt, flF_nx, flE_rt, un2_t, un3_t, tru_l, tru_b, app_n, cap_n, flat_n, flat_bl, optI_n, sl_n, zero_add_, decide_eq_true h, Bool.not_true, rif_f, then_ok, rd_at, addI_n, rd_set, okR_s]
  · rw [if_neg h]
    simp -implicitDefEqProofs only [Option.bind_some, Option.map_some, if_true_, if_ff, if_T, if_F, on0_s, on1_s, on2_s, on3_s, on4_s, on5_s, on6_s, asL_l, asL_r, asT_t, asB_b, len_l, len_r, len_t, l_0, l_1, l_2, l_3, l_4, l_5, l_6, l_7, l_8, l_9, l_10, l_11, l_12, l_13, l_14, l_15, l_20, l_21, l_22, l_25, l_26, l_30, l_31, l_32, l_36, l_38, l_40, l_60, l_64, l_70, l_96, l_97, l_100, l_128, l_512, l_7919, int_n, int_i, int_bn, add_n, ix_ln, ix_rn, ix_tn, list_l, list_t, few0, few1, few2, few3, few5, lt_n, gt_n, le_n, eqF_n, neF_n, rng1_m, flT_nx, flT_rt, flF_nx, flE_rt, un2_t, un3_t, tru_l, tru_b, app_n, cap_n, flat_n, flat_bl, optI_n, sl_n, zero_add_, decide_eq_false h, Bool.not_false, rd_at, err_n (β := Unit) (kb := 2) (i := i) (by omega), rif_t, then_er]
theorem take_e1 {al : List (List Nat)} (hi : i ≤ ws.length) (hw : ws.length ≤ 1000) : own1E e_Reader_take (rdV ws i) [ssD al] = if ws.getD i [] ∈ al then some (.ok (sD (ws.getD i []), rdV ws (i + 1))) else some (.error (.fl 2 i)) := take_e hi hw
theorem tix_e {al : List (List Nat)} (hi : i ≤ ws.length) (hw : ws.length ≤ 1000) : own1E e_Reader_take_index (rdV ws i) [ssD al] = match ixN al (ws.getD i []) with | some j => some (.ok (dn j, rdV ws (i + 1))) | none => some (.error (.fl 2 i)) := by
  show e_Reader_take_index (rdV ws i) (ssD al) = _
  unfold e_Reader_take_index r_Reader_take_index
  simp -implicitDefEqProofs only [Option.bind_some, Option.map_some, if_true_, if_ff, if_T, if_F, on0_s, on1_s, on2_s, on3_s, on4_s, on5_s, on6_s, asL_l, asL_r, asT_t, asB_b, len_l, len_r, len_t, l_0, l_1, l_2, l_3, l_4, l_5, l_6, l_7, l_8, l_9, l_10, l_11, l_12, l_13, l_14, l_15, l_20, l_21, l_22, l_25, l_26, l_30, l_31, l_32, l_36, l_38, l_40, l_60, l_64, l_70, l_96, l_97, l_100, l_128, l_512, l_7919, int_n, int_i, int_bn, add_n, ix_ln, ix_rn, ix_tn, list_l, list_t, few0, few1, few2, few3, few5, lt_n, gt_n, le_n, eqF_n, neF_n, rng1_m, flT_nx, flT_rt, flF_nx, flE_rt, un2_t, un3_t, tru_l, tru_b, app_n, cap_n, flat_n, flat_bl, optI_n, sl_n, zero_add_, mt3, take_e1 hi hw]
  cases e : ixN al (ws.getD i []) with
  | none => simp -implicitDefEqProofs only [Option.bind_some, Option.map_some, if_true_, if_ff, if_T, if_F, on0_s, on1_s, on2_s, on3_s, on4_s, on5_s, on6_s, asL_l, asL_r, asT_t, asB_b, len_l, len_r, len_t, l_0, l_1, l_2, l_3, l_4, l_5, l_6, l_7, l_8, l_9, l_10, l_11, l_12, l_13, l_14, l_15, l_20, l_21, l_22, l_25, l_26, l_30, l_31, l_32, l_36, l_38, l_40, l_60, l_64, l_70, l_96, l_97, l_100, l_128, l_512, l_7919, int_n, int_i, int_bn, add_n, ix_ln, ix_rn, ix_tn, list_l, list_t, few0, few1, few2, few3, few5, lt_n, gt_n, le_n, eqF_n, neF_n, rng1_m, flT_nx, flT_rt, flF_nx, flE_rt, un2_t, un3_t, tru_l, tru_b, app_n, cap_n, flat_n, flat_bl, optI_n, sl_n, zero_add_, if_neg (ix_none e), then_er]
  | some j => simp -implicitDefEqProofs only [Option.bind_some, Option.map_some, if_true_, if_ff, if_T, if_F, on0_s, on1_s, on2_s, on3_s, on4_s, on5_s, on6_s, asL_l, asL_r, asT_t, asB_b, len_l, len_r, len_t, l_0, l_1, l_2, l_3, l_4, l_5, l_6, l_7, l_8, l_9, l_10, l_11, l_12, l_13, l_14, l_15, l_20, l_21, l_22, l_25, l_26, l_30, l_31, l_32, l_36, l_38, l_40, l_60, l_64, l_70, l_96, l_97, l_100, l_128, l_512, l_7919, int_n, int_i, int_bn, add_n, ix_ln, ix_rn, ix_tn, list_l, list_t, few0, few1, few2, few3, few5, lt_n, gt_n, le_n, eqF_n, neF_n, rng1_m, flT_nx, flT_rt, flF_nx, flE_rt, un2_t, un3_t, tru_l, tru_b, app_n, cap_n, flat_n, flat_bl, optI_n, sl_n, zero_add_, if_pos (ix_mem e), then_ok, index_f, e, okR_s]
/-- a word taken stands in the text -/
theorem in_lt {al : List (List Nat)} (h : ws.getD i [] ∈ al) (hn : [] ∉ al) : i < ws.length := by
  by_cases z : i < ws.length
  · exact z
  · rw [List.getD_eq_getElem?_getD, List.getElem?_eq_none (by omega)] at h
    exact absurd h hn
end
section
variable {cs : List Nat} {hs : List (List Nat)} {nm : List (List Nat)} {wd : List (List (List Nat))} {ws : List (List Nat)} {i : Nat}
end
end Oh
namespace Oh
open PySem L2 TL
section
variable {cs : List Nat} {hs : List (List Nat)} {nm : List (List Nat)} {wd : List (List (List Nat))} {ws : List (List Nat)} {i v : Nat}
theorem ge_n {a b : Nat} : dGe (dn a) (dn b) = some (.bl (decide (b ≤ a))) := by
  show some (D.bl (decide ((b : Int) ≤ (a : Int)))) = _
  by_cases h : b ≤ a
  · rw [decide_eq_true h, decide_eq_true (by omega)]
  · rw [decide_eq_false h, decide_eq_false (by omega)]
theorem neg1 : dNeg (dn 1) = some (.int (-1)) := rfl
theorem drop_one {l : List (List Nat)} {i : Nat} : (l.drop i).take 1 = if i < l.length then [l.getD i []] else [] := by
  by_cases h : i < l.length
  · rw [if_pos h, List.drop_eq_getElem_cons h, List.take_succ_cons, List.take_zero, List.getD_eq_getElem?_getD, List.getElem?_eq_getElem h]; rfl
  · rw [if_neg h, List.drop_eq_nil_of_le (by omega), List.take_nil]
theorem strOk_s {a : List Nat} (h : Low a) : PyData.strOk (sS a) = true := by
  unfold PyData.strOk
  rw [← Array.all_toList, List.all_eq_true]
  exact fun c hc => decide_eq_true (h c hc)
theorem shp_l : ∀ l : List (List Nat), (∀ a ∈ l, Low a) → PyData.canLayAll0 (l.map fun a => .str (sS a)) = true ∧ PyData.depthAll (l.map fun a => .str (sS a)) = 0
  | [], _ => ⟨rfl, rfl⟩
  | a :: l, h => by
    obtain ⟨h1, h2⟩ := shp_l l fun b hb => h b (List.mem_cons_of_mem _ hb)
    constructor
    · show (PyData.strOk (sS a) && PyData.canLayAll0 _) = true
      rw [strOk_s (h a List.mem_cons_self), h1]; rfl
    · show max 0 (PyData.depthAll _) = 0
      rw [h2]; rfl
theorem toPs_s : ∀ l : List (List Nat), toPs (l.map sD) = some (l.map fun a => .str (sS a))
  | [] => rfl
  | a :: l => by
    show (toP (sD a)).bind (fun p => (toPs (l.map sD)).bind fun ps => some (p :: ps)) = _
    rw [toPs_s l]; rfl
theorem eqv_s : ∀ a b : List (List Nat), PyData.eqvAll (a.map fun a => .str (sS a)) (b.map fun a => .str (sS a)) = decide (a = b)
  | [], [] => rfl
  | [], _ :: _ => rfl
  | _ :: _, [] => rfl
  | a :: l, b :: m => by
    show (PyData.eqv (.str (sS a)) (.str (sS b)) && PyData.eqvAll _ _) = _
    rw [eqv_s l m]
    show ((sS a == sS b) && _) = _
    by_cases h : a = b
    · subst h
      by_cases h2 : l = m
      · subst h2; simp
      · rw [decide_eq_false h2, decide_eq_false (fun z => h2 (List.cons.inj z).2), Bool.and_false]
    · rw [beq_false_of_ne fun z => h (sS_inj z), decide_eq_false (fun z => h (List.cons.inj z).1)]; rfl
theorem eq_ls {a b : List (List Nat)} (ha : ∀ c ∈ a, Low c) (hb : ∀ c ∈ b, Low c) : dEq (ssD a) (ssD b) = some (.bl (decide (a = b))) := by
  have sh : ∀ l : List (List Nat), (∀ c ∈ l, Low c) → SeqAt.shaped (.list (l.map fun a => .str (sS a))) = true := fun l hl => by
    obtain ⟨h1, h2⟩ := shp_l l hl
    unfold SeqAt.shaped
    show (PyData.canLayAll0 _ && decide (PyData.depthAll _ + 1 ≤ 64)) = true
    rw [h1, h2]; rfl
  show (((toPs (a.map sD)).map PyData.list).bind fun p => ((toPs (b.map sD)).map PyData.list).bind fun q => if SeqAt.shaped p = true ∧ SeqAt.shaped q = true then some (PyData.eqv p q) else none).map D.bl = _
  rw [toPs_s, toPs_s]
  show (if SeqAt.shaped (.list (a.map fun a => .str (sS a))) = true ∧ SeqAt.shaped (.list (b.map fun a => .str (sS a))) = true then some (PyData.eqv (.list (a.map fun a => .str (sS a))) (.list (b.map fun a => .str (sS a)))) else none).map D.bl = _
  rw [if_pos ⟨sh a ha, sh b hb⟩]
  show some (D.bl (PyData.eqvAll _ _)) = _
  rw [eqv_s]
theorem cut_one (xs : List D) (a : Nat) : cutD xs (some (a : Int)) (some ((a + 1 : Nat) : Int)) = (xs.drop a).take 1 := by
  unfold cutD
  rw [HT.sIx_nat, HT.sIx_nat]
  by_cases h : a < xs.length
  · rw [Nat.min_eq_left (by omega), Nat.min_eq_left (by omega), Nat.add_sub_cancel_left]
  · rw [Nat.min_eq_right (show xs.length ≤ a by omega), List.drop_length, List.drop_eq_nil_of_le (show xs.length ≤ a by omega), List.take_nil, List.take_nil]
theorem getD_mem {l : List (List Nat)} {i : Nat} (h : i < l.length) : l.getD i [] ∈ l := by
  rw [List.getD_eq_getElem?_getD, List.getElem?_eq_getElem h]; exact List.getElem_mem _
theorem kept_at (i : Nat) (h : i < 13) : (kept.map sD)[i]? = some (sD (kept.getD i [])) ∧ kept.getD i [] ∈ kept := ⟨ls_at (ls := kept) h, by
  have : ∀ i, i < 13 → kept.getD i [] ∈ kept := by decide +kernel
  exact this i h⟩
theorem HouseOk.cnt (h : HouseOk cs hs nm wd) : wd.map (·.length) = cs := by
  apply List.ext_getElem?
  intro i
  by_cases hi : i < cs.length
  · have := (h.wd i hi).len
    rw [List.getElem?_map, ct_get hi, List.getElem?_eq_getElem (by rw [h.wdl]; exact hi)]
    rw [List.getD_eq_getElem?_getD, List.getElem?_eq_getElem (by rw [h.wdl]; exact hi)] at this
    exact congrArg some this
  · rw [List.getElem?_eq_none (by rw [List.length_map, h.wdl]; omega), List.getElem?_eq_none (by omega)]
theorem getD_at {xs : List Nat} {i : Nat} (h : i < xs.length) : xs[i]? = some (xs.getD i 0) := by rw [List.getD_eq_getElem?_getD, List.getElem?_eq_getElem h]; rfl
theorem tk_v {al : List (List Nat)} {m : Option D} (e : m = some (ssD al)) (hi : i ≤ ws.length) (hw : ws.length ≤ 1000) : tk1 e_Reader_take (rdV ws i) m = if ws.getD i [] ∈ al then some (.ok (sD (ws.getD i []), rdV ws (i + 1))) else some (.error (.fl 2 i)) := by
  subst e
  unfold tk1
  simp -implicitDefEqProofs only [Option.bind_some, Option.map_some, if_true_, if_ff, if_T, if_F, on0_s, on1_s, on2_s, on3_s, on4_s, on5_s, on6_s, asL_l, asL_r, asT_t, asB_b, len_l, len_r, len_t, l_0, l_1, l_2, l_3, l_4, l_5, l_6, l_7, l_8, l_9, l_10, l_11, l_12, l_13, l_14, l_15, l_20, l_21, l_22, l_25, l_26, l_30, l_31, l_32, l_36, l_38, l_40, l_60, l_64, l_70, l_96, l_97, l_100, l_128, l_512, l_7919, int_n, int_i, int_bn, add_n, ix_ln, ix_rn, ix_tn, list_l, list_t, few0, few1, few2, few3, few5, lt_n, gt_n, le_n, eqF_n, neF_n, rng1_m, flT_nx, flT_rt, flF_nx, flE_rt, un2_t, un3_t, tru_l, tru_b, app_n, cap_n, flat_n, flat_bl, optI_n, sl_n, zero_add_, mt3, take_e1 hi hw]
theorem ti_v {al : List (List Nat)} {m : Option D} (e : m = some (ssD al)) (hi : i ≤ ws.length) (hw : ws.length ≤ 1000) : ti1 e_Reader_take_index (rdV ws i) m = match ixN al (ws.getD i []) with | some j => some (.ok (dn j, rdV ws (i + 1))) | none => some (.error (.fl 2 i)) := by
  subst e
  unfold ti1
  simp -implicitDefEqProofs only [Option.bind_some, Option.map_some, if_true_, if_ff, if_T, if_F, on0_s, on1_s, on2_s, on3_s, on4_s, on5_s, on6_s, asL_l, asL_r, asT_t, asB_b, len_l, len_r, len_t, l_0, l_1, l_2, l_3, l_4, l_5, l_6, l_7, l_8, l_9, l_10, l_11, l_12, l_13, l_14, l_15, l_20, l_21, l_22, l_25, l_26, l_30, l_31, l_32, l_36, l_38, l_40, l_60, l_64, l_70, l_96, l_97, l_100, l_128, l_512, l_7919, int_n, int_i, int_bn, add_n, ix_ln, ix_rn, ix_tn, list_l, list_t, few0, few1, few2, few3, few5, lt_n, gt_n, le_n, eqF_n, neF_n, rng1_m, flT_nx, flT_rt, flF_nx, flE_rt, un2_t, un3_t, tru_l, tru_b, app_n, cap_n, flat_n, flat_bl, optI_n, sl_n, zero_add_, mt5, tix_e hi hw]
  all_goals (cases ixN al (ws.getD i []) <;> rfl)
theorem fin_v (hi : i ≤ ws.length) (hw : ws.length ≤ 1000) : fn1 e_Reader_finish (rdV ws i) = if i = ws.length then some (.ok (.non, rdV ws i)) else some (.error (.fl 2 i)) := by
  unfold fn1 e_Reader_finish own0N r_Reader_finish
  simp -implicitDefEqProofs only [Option.bind_some, Option.map_some, if_true_, if_ff, if_T, if_F, on0_s, on1_s, on2_s, on3_s, on4_s, on5_s, on6_s, asL_l, asL_r, asT_t, asB_b, len_l, len_r, len_t, l_0, l_1, l_2, l_3, l_4, l_5, l_6, l_7, l_8, l_9, l_10, l_11, l_12, l_13, l_14, l_15, l_20, l_21, l_22, l_25, l_26, l_30, l_31, l_32, l_36, l_38, l_40, l_60, l_64, l_70, l_96, l_97, l_100, l_128, l_512, l_7919, int_n, int_i, int_bn, add_n, ix_ln, ix_rn, ix_tn, list_l, list_t, few0, few1, few2, few3, few5, lt_n, gt_n, le_n, eqF_n, neF_n, rng1_m, flT_nx, flT_rt, flF_nx, flE_rt, un2_t, un3_t, tru_l, tru_b, app_n, cap_n, flat_n, flat_bl, optI_n, sl_n, zero_add_, mt6, mt1, ended_ok]
  by_cases z : i = ws.length
  · simp -implicitDefEqProofs only [Option.bind_some, Option.map_some, if_true_, if_ff, if_T, if_F, on0_s, on1_s, on2_s, on3_s, on4_s, on5_s, on6_s, asL_l, asL_r, asT_t, asB_b, len_l, len_r, len_t, l_0, l_1, l_2, l_3, l_4, l_5, l_6, l_7, l_8, l_9, l_10, l_11, l_12, l_13, l_14, l_15, l_20, l_21, l_22, l_25, l_26, l_30, l_31, l_32, l_36, l_38, l_40, l_60, l_64, l_70, l_96, l_97, l_100, l_128, l_512, l_7919, int_n, int_i, int_bn, add_n, ix_ln, ix_rn, ix_tn, list_l, list_t, few0, few1, few2, few3, few5, lt_n, gt_n, le_n, eqF_n, neF_n, rng1_m, flT_nx, flT_rt, flF_nx, flE_rt, un2_t, un3_t, tru_l, tru_b, app_n, cap_n, flat_n, flat_bl, optI_n, sl_n, zero_add_, decide_eq_true z, Bool.not_true, rif_f, then_ok, if_pos z]
  · simp -implicitDefEqProofs only [Option.bind_some, Option.map_some, if_true_, if_ff, if_T, if_F, on0_s, on1_s, on2_s, on3_s, on4_s, on5_s, on6_s, asL_l, asL_r, asT_t, asB_b, len_l, len_r, len_t, l_0, l_1, l_2, l_3, l_4, l_5, l_6, l_7, l_8, l_9, l_10, l_11, l_12, l_13, l_14, l_15, l_20, l_21, l_22, l_25, l_26, l_30, l_31, l_32, l_36, l_38, l_40, l_60, l_64, l_70, l_96, l_97, l_100, l_128, l_512, l_7919, int_n, int_i, int_bn, add_n, ix_ln, ix_rn, ix_tn, list_l, list_t, few0, few1, few2, few3, few5, lt_n, gt_n, le_n, eqF_n, neF_n, rng1_m, flT_nx, flT_rt, flF_nx, flE_rt, un2_t, un3_t, tru_l, tru_b, app_n, cap_n, flat_n, flat_bl, optI_n, sl_n, zero_add_, decide_eq_false z, Bool.not_false, rd_at, flat_n, err_n (β := Unit) (kb := 2) (i := i) (by omega), rif_t, then_er, if_neg z]
theorem ne_of {x y : D} {b : Bool} (h : dEq x y = some (.bl b)) : dNe x y = some (.bl (!b)) := by
  obtain ⟨c, e, h2⟩ := Option.map_eq_some_iff.mp h
  cases h2
  unfold dNe
  rw [e]; rfl
theorem toPs_n : ∀ l : List Nat, toPs (dns l) = some (l.map fun n : Nat => .int (n : Int)) ∧ PyData.canLayAll0 (l.map fun n : Nat => .int (n : Int)) = true ∧ PyData.depthAll (l.map fun n : Nat => .int (n : Int)) = 0
  | [] => ⟨rfl, rfl, rfl⟩
  | a :: l => by
    obtain ⟨h1, h2, h3⟩ := toPs_n l
    refine ⟨?_, ?_, ?_⟩
    · show (toP (dn a)).bind (fun p => (toPs (dns l)).bind fun ps => some (p :: ps)) = _
      rw [h1]; rfl
    · show (true && PyData.canLayAll0 _) = true
      rw [h2]; rfl
    · show max 0 (PyData.depthAll _) = 0
      rw [h3]; rfl
theorem eq_dl0 {l : List Nat} : dEq (dl l) (D.lst []) = some (.bl (decide (l = []))) := by
  obtain ⟨h1, h2, h3⟩ := toPs_n l
  have sh : SeqAt.shaped (.list (l.map fun n : Nat => .int (n : Int))) = true := by
    unfold SeqAt.shaped
    show (PyData.canLayAll0 _ && decide (PyData.depthAll _ + 1 ≤ 64)) = true
    rw [h2, h3]; rfl
  show (((toPs (dns l)).map PyData.list).bind fun p => (some (PyData.list [])).bind fun q => if SeqAt.shaped p = true ∧ SeqAt.shaped q = true then some (PyData.eqv p q) else none).map D.bl = _
  rw [h1]
  show (if SeqAt.shaped (.list (l.map fun n : Nat => .int (n : Int))) = true ∧ SeqAt.shaped (.list []) = true then some (PyData.eqv (.list (l.map fun n : Nat => .int (n : Int))) (.list [])) else none).map D.bl = _
  rw [if_pos ⟨sh, by decide⟩]
  cases l <;> rfl
theorem lowW {s : String} (h : (Wd s).all (fun c => decide (c < 0x110000)) = true) : Low (Wd s) := fun c hc => of_decide_eq_true (List.all_eq_true.mp h c hc)
noncomputable def alv (v : Nat) : List (List Nat) := if v = 0 then [Wd "variable"] else if v < 5 then [Wd "variable", Wd "end"] else [Wd "end"]
theorem words_after_ok (v : Nat) : m_words_after (dn v) = some (ssD (alv v)) := by
  unfold m_words_after alv
  simp -implicitDefEqProofs only [Option.bind_some, Option.map_some, if_true_, if_ff, if_T, if_F, on0_s, on1_s, on2_s, on3_s, on4_s, on5_s, on6_s, asL_l, asL_r, asT_t, asB_b, len_l, len_r, len_t, l_0, l_1, l_2, l_3, l_4, l_5, l_6, l_7, l_8, l_9, l_10, l_11, l_12, l_13, l_14, l_15, l_20, l_21, l_22, l_25, l_26, l_30, l_31, l_32, l_36, l_38, l_40, l_60, l_64, l_70, l_96, l_97, l_100, l_128, l_512, l_7919, int_n, int_i, int_bn, add_n, ix_ln, ix_rn, ix_tn, list_l, list_t, few0, few1, few2, few3, few5, lt_n, gt_n, le_n, eqF_n, neF_n, rng1_m, flT_nx, flT_rt, flF_nx, flE_rt, un2_t, un3_t, tru_l, tru_b, app_n, cap_n, flat_n, flat_bl, optI_n, sl_n, zero_add_, lit_s]
  by_cases h : v = 0
  · subst h; rfl
  · rw [decide_eq_false h, if_neg h]
    by_cases h5 : v < 5
    · rw [decide_eq_true h5, if_pos h5]; rfl
    · rw [decide_eq_false h5, if_neg h5]; rfl
theorem flatL_s : ∀ l : List (List Nat), flatL (ssD l) = some (ssD l) := fun l => by
  have : ∀ l : List (List Nat), flatDs (l.map sD) = some (l.map sD) := by
    intro l
    induction l with
    | nil => rfl
    | cons x l ih =>
      show (flatD (sD x)).bind (fun y => (flatDs (l.map sD)).bind fun ys => some (y :: ys)) = _
      rw [ih]; rfl
  show (flatDs (l.map sD)).map D.lst = _
  rw [this]; rfl
theorem flo_rd : Oh.flo (.j none (shF [("words", .l .v)])) (rdV ws i) = true := by
  show ((ws.map sD).all (Oh.flo .v) && (flatB (dn i) && true)) = true
  have : (ws.map sD).all (Oh.flo .v) = true := allfl_s ws
  rw [this]; rfl
theorem len_of {l : List Nat} (h : l.length ≤ 100000) : dLen (sD l) = some (dn l.length) := by
  show (if (sS l).length ≤ 100000 then some (D.int ((sS l).length : Int)) else none) = _
  rw [len_s, if_pos h]
theorem keptT : D.tup [sD (Wd "house"), sD (Wd "variable"), sD (Wd "says"), sD (Wd "hears"), sD (Wd "end"), sD (Wd "if"), sD (Wd "and"), sD (Wd "ignores"), sD (Wd "rises"), sD (Wd "falls"), sD (Wd "with"), sD (Wd "never"), sD (Wd "when")] = D.tup (kept.map sD) := rfl
theorem azE : sD (Wd "abcdefghijklmnopqrstuvwxyz") = sD az := rfl
theorem dgE : sD (Wd "0123456789") = sD dg := rfl
theorem anE : dAdd (sD az) (sD dg) = some (sD an) := add_s (by rw [az_len]; decide +kernel)
theorem last_ix (d : List Nat) (x : Nat) : dIx (dl (d ++ [x])) (.int (-1)) = some (dn x) := by
  show (L2.ixN (dns (d ++ [x])).length (-1)).bind (fun j => (dns (d ++ [x]))[j]?) = _
  have hl : (dns (d ++ [x])).length = d.length + 1 := by rw [dns_len, List.length_append]; rfl
  unfold L2.ixN
  rw [hl, if_neg (by decide), if_pos (by omega)]
  show (dns (d ++ [x]))[((-1 : Int) + ((d.length + 1 : Nat) : Int)).toNat]? = _
  rw [show ((-1 : Int) + ((d.length + 1 : Nat) : Int)).toNat = d.length by omega]
  exact dns_at (by rw [List.getElem?_append_right (Nat.le_refl _), Nat.sub_self]; rfl)
noncomputable def alw (er : List (List Nat)) : List (List Nat) := if er = [] then [Wd "end"] else [Wd "hears", Wd "end"]
theorem alw_ok (er : List (List Nat)) : (if (!(er.map sD).isEmpty) = true then some (D.lst [sD (Wd "hears"), sD (Wd "end")]) else some (D.lst [sD (Wd "end")])) = some (ssD (alw er)) := by
  cases er <;> rfl
theorem allfl_n : ∀ l : List Nat, (dns l).all flatB = true
  | [] => rfl
  | _ :: l => by show (flatB _ && (dns l).all flatB) = true; rw [allfl_n l]; rfl
end
end Oh
namespace Oh
open PySem L2 TL
noncomputable def nmB (s : List Nat) : Bool := decide (s ≠ []) && (decide (s.length ≤ 12) && (decide (s.headD 0 ∈ az) && (s.all (fun c => decide (c ∈ an)) && !decide (s ∈ kept))))
theorem nmB_iff {s : List Nat} : nmB s = true ↔ NameOk s := by
  unfold nmB
  simp only [Bool.and_eq_true, decide_eq_true_eq, List.all_eq_true, Bool.not_eq_true', decide_eq_false_iff_not]
  exact ⟨fun ⟨a, b, c, d, e⟩ => ⟨a, b, c, d, e⟩, fun h => ⟨h.ne, h.len, h.hd, h.all, h.nk⟩⟩
theorem nmB_nil : nmB [] = false := rfl
theorem allD_an : ∀ l : List Nat, allD (fun x_24 => dInT x_24 (sD an)) (l.map fun c => sD [c]) = some (.bl (l.all (fun c => decide (c ∈ an))))
  | [] => rfl
  | c :: l => by
    rw [List.map_cons, List.all_cons]
    show ((dInT (sD [c]) (sD an)).bind _) = _
    rw [in_s]
    by_cases h : c ∈ an
    · rw [decide_eq_true h, Bool.true_and]; exact allD_an l
    · rw [decide_eq_false h, Bool.false_and]; rfl
theorem is_name_e {s : List Nat} (hl : s.length ≤ 100000) : m_is_name (sD s) = some (.bl (nmB s)) := by
  unfold m_is_name nmB
  simp -implicitDefEqProofs only [Option.bind_some, Option.map_some, if_true_, if_ff, if_T, if_F, on0_s, on1_s, on2_s, on3_s, on4_s, on5_s, on6_s, asL_l, asL_r, asT_t, asB_b, len_l, len_r, len_t, l_0, l_1, l_2, l_3, l_4, l_5, l_6, l_7, l_8, l_9, l_10, l_11, l_12, l_13, l_14, l_15, l_20, l_21, l_22, l_25, l_26, l_30, l_31, l_32, l_36, l_38, l_40, l_60, l_64, l_70, l_96, l_97, l_100, l_128, l_512, l_7919, int_n, int_i, int_bn, add_n, ix_ln, ix_rn, ix_tn, list_l, list_t, few0, few1, few2, few3, few5, lt_n, gt_n, le_n, eqF_n, neF_n, rng1_m, flT_nx, flT_rt, flF_nx, flE_rt, un2_t, un3_t, tru_l, tru_b, app_n, cap_n, flat_n, flat_bl, optI_n, sl_n, zero_add_, lit_s, isi_s, Bool.not_true, keptT, azE, dgE, anE, wd_nil, eqF_s, len_of (l := s) hl, memt_s, ix_s (l := s) hl, chars_s]
  cases s with
  | nil => rfl
  | cons c l =>
    rw [decide_eq_false (List.cons_ne_nil c l), decide_eq_true (List.cons_ne_nil c l), Bool.true_and, if_ff]
    by_cases h1 : (c :: l).length ≤ 12
    · rw [decide_eq_true h1, decide_eq_false (show ¬ 12 < (c :: l).length by omega), Bool.true_and, if_ff]
      by_cases h2 : (c :: l) ∈ kept
      · rw [decide_eq_true h2]; simp
      · rw [decide_eq_false h2, Bool.not_false, Bool.and_true]
        have hh : (c :: l).headD 0 = c := rfl
        rw [hh]
        by_cases h3 : c ∈ az
        · simp -implicitDefEqProofs only [Option.bind_some, Option.map_some, if_true_, if_ff, if_T, if_F, on0_s, on1_s, on2_s, on3_s, on4_s, on5_s, on6_s, asL_l, asL_r, asT_t, asB_b, len_l, len_r, len_t, l_0, l_1, l_2, l_3, l_4, l_5, l_6, l_7, l_8, l_9, l_10, l_11, l_12, l_13, l_14, l_15, l_20, l_21, l_22, l_25, l_26, l_30, l_31, l_32, l_36, l_38, l_40, l_60, l_64, l_70, l_96, l_97, l_100, l_128, l_512, l_7919, int_n, int_i, int_bn, add_n, ix_ln, ix_rn, ix_tn, list_l, list_t, few0, few1, few2, few3, few5, lt_n, gt_n, le_n, eqF_n, neF_n, rng1_m, flT_nx, flT_rt, flF_nx, flE_rt, un2_t, un3_t, tru_l, tru_b, app_n, cap_n, flat_n, flat_bl, optI_n, sl_n, zero_add_, List.getElem?_cons_zero, in_s, decide_eq_true h3, Bool.true_and, allD_an]
        · simp -implicitDefEqProofs only [Option.bind_some, Option.map_some, if_true_, if_ff, if_T, if_F, on0_s, on1_s, on2_s, on3_s, on4_s, on5_s, on6_s, asL_l, asL_r, asT_t, asB_b, len_l, len_r, len_t, l_0, l_1, l_2, l_3, l_4, l_5, l_6, l_7, l_8, l_9, l_10, l_11, l_12, l_13, l_14, l_15, l_20, l_21, l_22, l_25, l_26, l_30, l_31, l_32, l_36, l_38, l_40, l_60, l_64, l_70, l_96, l_97, l_100, l_128, l_512, l_7919, int_n, int_i, int_bn, add_n, ix_ln, ix_rn, ix_tn, list_l, list_t, few0, few1, few2, few3, few5, lt_n, gt_n, le_n, eqF_n, neF_n, rng1_m, flT_nx, flT_rt, flF_nx, flE_rt, un2_t, un3_t, tru_l, tru_b, app_n, cap_n, flat_n, flat_bl, optI_n, sl_n, zero_add_, List.getElem?_cons_zero, in_s, decide_eq_false h3, Bool.false_and]
    · rw [decide_eq_false h1, decide_eq_true (show 12 < (c :: l).length by omega), Bool.false_and]; rfl
theorem forF_an {k : D → Unit → Option (Fl Unit Unit)} (hk : ∀ c, k (sD [c]) () = if c ∈ an then some (Fl.nx ()) else some (Fl.rt (.bl false))) : ∀ l : List Nat, forF (γ := Empty) k (l.map fun c => sD [c]) () = if l.all (fun c => decide (c ∈ an)) = true then some (Fl.nx ()) else some (Fl.rt (.bl false))
  | [] => rfl
  | c :: l => by
    show (k (sD [c]) ()).bind _ = _
    rw [hk, List.all_cons]
    by_cases h : c ∈ an
    · rw [if_pos h, decide_eq_true h, Bool.true_and]
      exact forF_an hk l
    · rw [if_neg h, decide_eq_false h, Bool.false_and]; rfl
theorem an_dg : ∀ c ∈ an, (decide (c ∈ dg)) = !decide (c ∈ az) := by decide +kernel
theorem nin_t {c : Nat} {l : List Nat} : dNinT (sD [c]) (sD l) = some (.bl (!decide (c ∈ l))) := rfl
theorem anE2 : sD (Wd "abcdefghijklmnopqrstuvwxyz0123456789") = sD an := congrArg sD (by decide +kernel)
theorem lis_name_e {s : List Nat} (hl : s.length ≤ 100000) : m_law_is_name (sD s) = some (.bl (nmB s)) := by
  unfold m_law_is_name nmB
  simp -implicitDefEqProofs only [Option.bind_some, Option.map_some, if_true_, if_ff, if_T, if_F, on0_s, on1_s, on2_s, on3_s, on4_s, on5_s, on6_s, asL_l, asL_r, asT_t, asB_b, len_l, len_r, len_t, l_0, l_1, l_2, l_3, l_4, l_5, l_6, l_7, l_8, l_9, l_10, l_11, l_12, l_13, l_14, l_15, l_20, l_21, l_22, l_25, l_26, l_30, l_31, l_32, l_36, l_38, l_40, l_60, l_64, l_70, l_96, l_97, l_100, l_128, l_512, l_7919, int_n, int_i, int_bn, add_n, ix_ln, ix_rn, ix_tn, list_l, list_t, few0, few1, few2, few3, few5, lt_n, gt_n, le_n, eqF_n, neF_n, rng1_m, flT_nx, flT_rt, flF_nx, flE_rt, un2_t, un3_t, tru_l, tru_b, app_n, cap_n, flat_n, flat_bl, optI_n, sl_n, zero_add_, lit_s, anE2, dgE, len_of (l := s) hl, kept_ok, mem_s, ix_s (l := s) hl, chars_s]
  cases s with
  | nil => rfl
  | cons c l =>
    rw [decide_eq_true (List.cons_ne_nil c l), Bool.true_and, decide_eq_true (show 1 ≤ (c :: l).length from Nat.succ_le_succ (Nat.zero_le _))]
    simp -implicitDefEqProofs only [Option.bind_some, Option.map_some, if_true_, if_ff, if_T, if_F, on0_s, on1_s, on2_s, on3_s, on4_s, on5_s, on6_s, asL_l, asL_r, asT_t, asB_b, len_l, len_r, len_t, l_0, l_1, l_2, l_3, l_4, l_5, l_6, l_7, l_8, l_9, l_10, l_11, l_12, l_13, l_14, l_15, l_20, l_21, l_22, l_25, l_26, l_30, l_31, l_32, l_36, l_38, l_40, l_60, l_64, l_70, l_96, l_97, l_100, l_128, l_512, l_7919, int_n, int_i, int_bn, add_n, ix_ln, ix_rn, ix_tn, list_l, list_t, few0, few1, few2, few3, few5, lt_n, gt_n, le_n, eqF_n, neF_n, rng1_m, flT_nx, flT_rt, flF_nx, flE_rt, un2_t, un3_t, tru_l, tru_b, app_n, cap_n, flat_n, flat_bl, optI_n, sl_n, zero_add_]
    by_cases h1 : (c :: l).length ≤ 12
    · rw [decide_eq_true h1, Bool.not_true, Bool.true_and, if_ff]
      by_cases h2 : (c :: l) ∈ kept
      · rw [decide_eq_true h2]; simp
      · rw [decide_eq_false h2, Bool.not_false, Bool.and_true]
        rw [forF_an (fun c => by
          rw [nin_t]
          by_cases h : c ∈ an
          · rw [if_pos h, decide_eq_true h]; rfl
          · rw [if_neg h, decide_eq_false h]; rfl)]
        cases ea : (c :: l).all (fun c => decide (c ∈ an)) with
        | false => rw [Bool.and_false]; rfl
        | true =>
          have hc : c ∈ an := of_decide_eq_true (List.all_eq_true.mp ea c List.mem_cons_self)
          rw [Bool.and_true, if_pos rfl]
          show dNinT (sD [c]) (sD dg) = some (D.bl (decide (c ∈ az)))
          rw [nin_t, an_dg c hc, Bool.not_not]
    · rw [decide_eq_false h1, Bool.not_false, Bool.false_and]; rfl
end Oh
namespace Oh
open PySem L2 TL
section
variable {ws : List (List Nat)} {i : Nat}
theorem gd_len (lw : ∀ s ∈ ws, WOk s) (n : Nat) : (ws.getD n []).length ≤ 100000 := by
  by_cases h : n < ws.length
  · have := (lw _ (getD_mem h)).len
    omega
  · rw [List.getD_eq_getElem?_getD, List.getElem?_eq_none (by omega)]; exact Nat.zero_le _
theorem gd_nil {n : Nat} (h : ¬ n < ws.length) : ws.getD n [] = [] := by
  rw [List.getD_eq_getElem?_getD, List.getElem?_eq_none (by omega)]; rfl
theorem gd_lt {n : Nat} (h : ws.getD n [] ≠ []) : n < ws.length := by
  by_cases z : n < ws.length
  · exact z
  · exact absurd (gd_nil z) h
theorem nm_lt {n : Nat} (h : nmB (ws.getD n []) = true) : n < ws.length := gd_lt fun z => by rw [z] at h; cases h
/-- may this word be taken as a new name -/
noncomputable def newB (us : List (List Nat)) (w : List Nat) : Bool := nmB w && !decide (w ∈ us)
theorem name_e {us : List (List Nat)} (lw : ∀ s ∈ ws, WOk s) (hi : i ≤ ws.length) (hw : ws.length ≤ 1000) : own1E e_Reader_take_name (rdV ws i) [ssD us] = if newB us (ws.getD i []) = true then some (.ok (sD (ws.getD i []), rdV ws (i + 1))) else some (.error (.fl 2 i)) := by
  show e_Reader_take_name (rdV ws i) (ssD us) = _
  unfold e_Reader_take_name r_Reader_take_name newB
  simp -implicitDefEqProofs only [Option.bind_some, Option.map_some, if_true_, if_ff, if_T, if_F, on0_s, on1_s, on2_s, on3_s, on4_s, on5_s, on6_s, asL_l, asL_r, asT_t, asB_b, len_l, len_r, len_t, l_0, l_1, l_2, l_3, l_4, l_5, l_6, l_7, l_8, l_9, l_10, l_11, l_12, l_13, l_14, l_15, l_20, l_21, l_22, l_25, l_26, l_30, l_31, l_32, l_36, l_38, l_40, l_60, l_64, l_70, l_96, l_97, l_100, l_128, l_512, l_7919, int_n, int_i, int_bn, add_n, ix_ln, ix_rn, ix_tn, list_l, list_t, few0, few1, few2, few3, few5, lt_n, gt_n, le_n, eqF_n, neF_n, rng1_m, flT_nx, flT_rt, flF_nx, flE_rt, un2_t, un3_t, tru_l, tru_b, app_n, cap_n, flat_n, flat_bl, optI_n, sl_n, zero_add_, mt2, coming_ok hi, flat_s, okR_s, then_ok, mem_s, is_name_e (gd_len lw i)]
  by_cases h : ws.getD i [] ∈ us
  · simp -implicitDefEqProofs only [Option.bind_some, Option.map_some, if_true_, if_ff, if_T, if_F, on0_s, on1_s, on2_s, on3_s, on4_s, on5_s, on6_s, asL_l, asL_r, asT_t, asB_b, len_l, len_r, len_t, l_0, l_1, l_2, l_3, l_4, l_5, l_6, l_7, l_8, l_9, l_10, l_11, l_12, l_13, l_14, l_15, l_20, l_21, l_22, l_25, l_26, l_30, l_31, l_32, l_36, l_38, l_40, l_60, l_64, l_70, l_96, l_97, l_100, l_128, l_512, l_7919, int_n, int_i, int_bn, add_n, ix_ln, ix_rn, ix_tn, list_l, list_t, few0, few1, few2, few3, few5, lt_n, gt_n, le_n, eqF_n, neF_n, rng1_m, flT_nx, flT_rt, flF_nx, flE_rt, un2_t, un3_t, tru_l, tru_b, app_n, cap_n, flat_n, flat_bl, optI_n, sl_n, zero_add_, decide_eq_true h, Bool.not_true, Bool.and_false, rd_at, err_n (β := Unit) (kb := 2) (i := i) (by omega), rif_t, then_er]
  · rw [decide_eq_false h, Bool.not_false, Bool.and_true]
    cases e : nmB (ws.getD i []) with
    | true => simp -implicitDefEqProofs only [Option.bind_some, Option.map_some, if_true_, if_ff, if_T, if_F, on0_s, on1_s, on2_s, on3_s, on4_s, on5_s, on6_s, asL_l, asL_r, asT_t, asB_b, len_l, len_r, len_t, l_0, l_1, l_2, l_3, l_4, l_5, l_6, l_7, l_8, l_9, l_10, l_11, l_12, l_13, l_14, l_15, l_20, l_21, l_22, l_25, l_26, l_30, l_31, l_32, l_36, l_38, l_40, l_60, l_64, l_70, l_96, l_97, l_100, l_128, l_512, l_7919, int_n, int_i, int_bn, add_n, ix_ln, ix_rn, ix_tn, list_l, list_t, few0, few1, few2, few3, few5, lt_n, gt_n, le_n, eqF_n, neF_n, rng1_m, flT_nx, flT_rt, flF_nx, flE_rt, un2_t, un3_t, tru_l, tru_b, app_n, cap_n, flat_n, flat_bl, optI_n, sl_n, zero_add_, Bool.not_true, rif_f, then_ok, rd_at, addI_n, rd_set, okR_s]
    | false => simp -implicitDefEqProofs only [Option.bind_some, Option.map_some, if_true_, if_ff, if_T, if_F, on0_s, on1_s, on2_s, on3_s, on4_s, on5_s, on6_s, asL_l, asL_r, asT_t, asB_b, len_l, len_r, len_t, l_0, l_1, l_2, l_3, l_4, l_5, l_6, l_7, l_8, l_9, l_10, l_11, l_12, l_13, l_14, l_15, l_20, l_21, l_22, l_25, l_26, l_30, l_31, l_32, l_36, l_38, l_40, l_60, l_64, l_70, l_96, l_97, l_100, l_128, l_512, l_7919, int_n, int_i, int_bn, add_n, ix_ln, ix_rn, ix_tn, list_l, list_t, few0, few1, few2, few3, few5, lt_n, gt_n, le_n, eqF_n, neF_n, rng1_m, flT_nx, flT_rt, flF_nx, flE_rt, un2_t, un3_t, tru_l, tru_b, app_n, cap_n, flat_n, flat_bl, optI_n, sl_n, zero_add_, Bool.not_false, rd_at, err_n (β := Unit) (kb := 2) (i := i) (by omega), rif_t, then_er]
theorem tn_v {us : List (List Nat)} {m : Option D} (e : m = some (ssD us)) (lw : ∀ s ∈ ws, WOk s) (hi : i ≤ ws.length) (hw : ws.length ≤ 1000) : tn1 e_Reader_take_name (rdV ws i) m = if newB us (ws.getD i []) = true then some (.ok (sD (ws.getD i []), rdV ws (i + 1))) else some (.error (.fl 2 i)) := by
  subst e
  unfold tn1
  simp -implicitDefEqProofs only [Option.bind_some, Option.map_some, if_true_, if_ff, if_T, if_F, on0_s, on1_s, on2_s, on3_s, on4_s, on5_s, on6_s, asL_l, asL_r, asT_t, asB_b, len_l, len_r, len_t, l_0, l_1, l_2, l_3, l_4, l_5, l_6, l_7, l_8, l_9, l_10, l_11, l_12, l_13, l_14, l_15, l_20, l_21, l_22, l_25, l_26, l_30, l_31, l_32, l_36, l_38, l_40, l_60, l_64, l_70, l_96, l_97, l_100, l_128, l_512, l_7919, int_n, int_i, int_bn, add_n, ix_ln, ix_rn, ix_tn, list_l, list_t, few0, few1, few2, few3, few5, lt_n, gt_n, le_n, eqF_n, neF_n, rng1_m, flT_nx, flT_rt, flF_nx, flE_rt, un2_t, un3_t, tru_l, tru_b, app_n, cap_n, flat_n, flat_bl, optI_n, sl_n, zero_add_, mt4]
  exact name_e lw hi hw
theorem new_lt {us : List (List Nat)} {n : Nat} (h : newB us (ws.getD n []) = true) : n + 1 ≤ ws.length := nm_lt (by unfold newB at h; exact (Bool.and_eq_true_iff.mp h).1)
/-! the words of a variable -/
noncomputable def ownS (ws : List (List Nat)) (i : Nat) : List (List Nat) :=
  if newB [] (ws.getD i []) = true then
    (if newB [ws.getD i []] (ws.getD (i + 1) []) = true then
      (if newB [ws.getD i [], ws.getD (i + 1) []] (ws.getD (i + 2) []) = true then [ws.getD i [], ws.getD (i + 1) [], ws.getD (i + 2) []] else [ws.getD i [], ws.getD (i + 1) []])
    else [ws.getD i []])
  else []
noncomputable def ownP (ws : List (List Nat)) (i : Nat) : Except Nat (List (List Nat) × Nat) :=
  if newB [] (ws.getD i []) = true then
    (if newB [ws.getD i []] (ws.getD (i + 1) []) = true then
      (if nmB (ws.getD (i + 2) []) = true then (if newB [ws.getD i [], ws.getD (i + 1) []] (ws.getD (i + 2) []) = true then .ok ([ws.getD i [], ws.getD (i + 1) [], ws.getD (i + 2) []], i + 3) else .error (i + 2))
      else .ok ([ws.getD i [], ws.getD (i + 1) []], i + 2))
    else .error (i + 1))
  else .error i
theorem chk_ok {w : List Nat} : chkR (shF [("words", .l .v)]) (.ok (sD w, rdV ws i)) = some (.ok (sD w, rdV ws i)) := by
  unfold chkR
  exact if_pos ⟨rfl, flo_rd⟩
theorem apR_ok {st : List (List Nat)} {w : List Nat} {r : D} (h : st.length ≤ 1000) : apR (ssD st) (some (.ok (sD w, r))) = some (.ok (ssD (st ++ [w]), (sD w, r))) := by
  unfold apR
  rw [then_ok]
  show okR ((dApp (ssD st) (sD w)).map _) = _
  rw [appW (by omega)]; rfl
theorem ssD_1 {a : List Nat} : D.lst [sD a] = ssD [a] := rfl
theorem ownP_ok (lw : ∀ s ∈ ws, WOk s) (hi : i ≤ ws.length) (hw : ws.length ≤ 1000) : own0E e_read_words (rdV ws i) [] = toE (ownP ws i) (fun p => (ssD p.1, rdV ws p.2)) := by
  show e_read_words (rdV ws i) = _
  unfold e_read_words r_read_words ownP
  have t0 : tn1 e_Reader_take_name (rdV ws i) ((some []).bind (few .lst)) = _ := tn_v (us := []) rfl lw hi hw
  rw [t0]
  by_cases h0 : newB [] (ws.getD i []) = true
  · have l0 := new_lt h0
    rw [if_pos h0, if_pos h0, then_ok]
    dsimp only
    have t1 : tn1 e_Reader_take_name (rdV ws (i + 1)) (some (D.lst [sD (ws.getD i [])])) = _ := tn_v (us := [ws.getD i []]) rfl lw l0 hw
    rw [t1]
    by_cases h1 : newB [ws.getD i []] (ws.getD (i + 1) []) = true
    · have l1 := new_lt h1
      rw [if_pos h1, if_pos h1, Option.bind_some, chk_ok, ssD_1, apR_ok (by show 1 ≤ 1000; decide), then_ok]
      simp -implicitDefEqProofs only [Option.bind_some, Option.map_some, if_true_, if_ff, if_T, if_F, on0_s, on1_s, on2_s, on3_s, on4_s, on5_s, on6_s, asL_l, asL_r, asT_t, asB_b, len_l, len_r, len_t, l_0, l_1, l_2, l_3, l_4, l_5, l_6, l_7, l_8, l_9, l_10, l_11, l_12, l_13, l_14, l_15, l_20, l_21, l_22, l_25, l_26, l_30, l_31, l_32, l_36, l_38, l_40, l_60, l_64, l_70, l_96, l_97, l_100, l_128, l_512, l_7919, int_n, int_i, int_bn, add_n, ix_ln, ix_rn, ix_tn, list_l, list_t, few0, few1, few2, few3, few5, lt_n, gt_n, le_n, eqF_n, neF_n, rng1_m, flT_nx, flT_rt, flF_nx, flE_rt, un2_t, un3_t, tru_l, tru_b, app_n, cap_n, flat_n, flat_bl, optI_n, sl_n, zero_add_, mt2, coming_ok (ws := ws) (i := i + 1 + 1) l1, is_name_e (gd_len lw (i + 1 + 1))]
      cases e : nmB (ws.getD (i + 1 + 1) []) with
      | false =>
        rw [show i + 1 + 1 = i + 2 from rfl] at e
        simp -implicitDefEqProofs only [Option.bind_some, Option.map_some, if_true_, if_ff, if_T, if_F, on0_s, on1_s, on2_s, on3_s, on4_s, on5_s, on6_s, asL_l, asL_r, asT_t, asB_b, len_l, len_r, len_t, l_0, l_1, l_2, l_3, l_4, l_5, l_6, l_7, l_8, l_9, l_10, l_11, l_12, l_13, l_14, l_15, l_20, l_21, l_22, l_25, l_26, l_30, l_31, l_32, l_36, l_38, l_40, l_60, l_64, l_70, l_96, l_97, l_100, l_128, l_512, l_7919, int_n, int_i, int_bn, add_n, ix_ln, ix_rn, ix_tn, list_l, list_t, few0, few1, few2, few3, few5, lt_n, gt_n, le_n, eqF_n, neF_n, rng1_m, flT_nx, flT_rt, flF_nx, flE_rt, un2_t, un3_t, tru_l, tru_b, app_n, cap_n, flat_n, flat_bl, optI_n, sl_n, zero_add_, e, okR_s, then_ok]
        rfl
      | true =>
        have t2 : tn1 e_Reader_take_name (rdV ws (i + 1 + 1)) (some (ssD ([ws.getD i []] ++ [ws.getD (i + 1) []]))) = _ := tn_v (us := [ws.getD i []] ++ [ws.getD (i + 1) []]) rfl lw l1 hw
        rw [if_pos (rfl : true = true), t2, if_pos (rfl : true = true)]
        by_cases h2 : newB [ws.getD i [], ws.getD (i + 1) []] (ws.getD (i + 2) []) = true
        · rw [if_pos h2, if_pos (show newB ([ws.getD i []] ++ [ws.getD (i + 1) []]) (ws.getD (i + 1 + 1) []) = true from h2), Option.bind_some, chk_ok, apR_ok (by show 2 ≤ 1000; decide), then_ok]
          rfl
        · rw [if_neg h2, if_neg (show ¬ newB ([ws.getD i []] ++ [ws.getD (i + 1) []]) (ws.getD (i + 1 + 1) []) = true from h2)]
          rfl
    · rw [if_neg h1, if_neg h1]
      rfl
  · rw [if_neg h0, if_neg h0]
    rfl
/-! law -/
noncomputable def stepO (ws : List (List Nat)) (i k : Nat) (r : List (List Nat)) : List (List Nat) := if r.length = k ∧ newB r (ws.getD (i + k) []) = true then r ++ [ws.getD (i + k) []] else r
theorem stepO_len {k : Nat} {r : List (List Nat)} : (stepO ws i k r).length ≤ r.length + 1 := by
  unfold stepO
  split
  · rw [List.length_append]; exact Nat.le_refl _
  · omega
theorem own_steps : stepO ws i 2 (stepO ws i 1 (stepO ws i 0 [])) = ownS ws i := by
  unfold ownS
  by_cases h0 : newB [] (ws.getD i []) = true
  · rw [if_pos h0]
    have e0 : stepO ws i 0 [] = [ws.getD i []] := if_pos ⟨rfl, h0⟩
    rw [e0]
    by_cases h1 : newB [ws.getD i []] (ws.getD (i + 1) []) = true
    · rw [if_pos h1]
      have e1 : stepO ws i 1 [ws.getD i []] = [ws.getD i [], ws.getD (i + 1) []] := if_pos ⟨rfl, h1⟩
      rw [e1]
      by_cases h2 : newB [ws.getD i [], ws.getD (i + 1) []] (ws.getD (i + 2) []) = true
      · rw [if_pos h2]; exact if_pos ⟨rfl, h2⟩
      · rw [if_neg h2]; exact if_neg fun z => h2 z.2
    · rw [if_neg h1]
      have e1 : stepO ws i 1 [ws.getD i []] = [ws.getD i []] := if_neg fun z => h1 z.2
      rw [e1]
      exact if_neg fun z => absurd z.1 (by simp)
  · rw [if_neg h0]
    have e0 : stepO ws i 0 [] = [] := if_neg fun z => h0 z.2
    rw [e0]
    have e1 : stepO ws i 1 [] = [] := if_neg fun z => absurd z.1 (by decide)
    rw [e1]
    exact if_neg fun z => absurd z.1 (by decide)
theorem lown_ok (lw : ∀ s ∈ ws, WOk s) (hw : ws.length ≤ 1000) : m_law_read_names (ssD ws) (dn i) (dn 3) = some (ssD (ownS ws i)) := by
  unfold m_law_read_names
  simp -implicitDefEqProofs only [Option.bind_some, Option.map_some, if_true_, if_ff, if_T, if_F, on0_s, on1_s, on2_s, on3_s, on4_s, on5_s, on6_s, asL_l, asL_r, asT_t, asB_b, len_l, len_r, len_t, l_0, l_1, l_2, l_3, l_4, l_5, l_6, l_7, l_8, l_9, l_10, l_11, l_12, l_13, l_14, l_15, l_20, l_21, l_22, l_25, l_26, l_30, l_31, l_32, l_36, l_38, l_40, l_60, l_64, l_70, l_96, l_97, l_100, l_128, l_512, l_7919, int_n, int_i, int_bn, add_n, ix_ln, ix_rn, ix_tn, list_l, list_t, few0, few1, few2, few3, few5, lt_n, gt_n, le_n, eqF_n, neF_n, rng1_m, flT_nx, flT_rt, flF_nx, flE_rt, un2_t, un3_t, tru_l, tru_b, app_n, cap_n, flat_n, flat_bl, optI_n, sl_n, zero_add_, rng_s (n := 3) (by decide)]
  rw [← own_steps]
  have step : ∀ {k : D → D → Option D} (hk : ∀ j r, j < 3 → r.length ≤ 3 → k (dn j) (ssD r) = some (ssD (stepO ws i j r))), forS k (dns (List.range 3)) (D.lst []) = some (ssD (stepO ws i 2 (stepO ws i 1 (stepO ws i 0 [])))) := fun {k} hk => by
    have l0 : (stepO ws i 0 []).length ≤ 1 := stepO_len
    have l1 : (stepO ws i 1 (stepO ws i 0 [])).length ≤ 2 := Nat.le_trans stepO_len (Nat.succ_le_succ l0)
    show (k (dn 0) (ssD [])).bind (fun b => (k (dn 1) b).bind fun b => (k (dn 2) b).bind fun b => some b) = _
    rw [hk 0 [] (by decide) (by decide)]
    show (k (dn 1) _).bind _ = _
    rw [hk 1 _ (by decide) (by omega)]
    show (k (dn 2) _).bind _ = _
    rw [hk 2 _ (by decide) (by omega)]; rfl
  refine (bind_of (step fun j r hj hr => ?_)).trans rfl
  unfold stepO newB
  simp -implicitDefEqProofs only [Option.bind_some, Option.map_some, if_true_, if_ff, if_T, if_F, on0_s, on1_s, on2_s, on3_s, on4_s, on5_s, on6_s, asL_l, asL_r, asT_t, asB_b, len_l, len_r, len_t, l_0, l_1, l_2, l_3, l_4, l_5, l_6, l_7, l_8, l_9, l_10, l_11, l_12, l_13, l_14, l_15, l_20, l_21, l_22, l_25, l_26, l_30, l_31, l_32, l_36, l_38, l_40, l_60, l_64, l_70, l_96, l_97, l_100, l_128, l_512, l_7919, int_n, int_i, int_bn, add_n, ix_ln, ix_rn, ix_tn, list_l, list_t, few0, few1, few2, few3, few5, lt_n, gt_n, le_n, eqF_n, neF_n, rng1_m, flT_nx, flT_rt, flF_nx, flE_rt, un2_t, un3_t, tru_l, tru_b, app_n, cap_n, flat_n, flat_bl, optI_n, sl_n, zero_add_, List.length_map]
  by_cases h1 : i + j < ws.length
  · have wi := ls_at (ls := ws) h1
    rw [decide_eq_true h1]
    simp -implicitDefEqProofs only [Option.bind_some, Option.map_some, if_true_, if_ff, if_T, if_F, on0_s, on1_s, on2_s, on3_s, on4_s, on5_s, on6_s, asL_l, asL_r, asT_t, asB_b, len_l, len_r, len_t, l_0, l_1, l_2, l_3, l_4, l_5, l_6, l_7, l_8, l_9, l_10, l_11, l_12, l_13, l_14, l_15, l_20, l_21, l_22, l_25, l_26, l_30, l_31, l_32, l_36, l_38, l_40, l_60, l_64, l_70, l_96, l_97, l_100, l_128, l_512, l_7919, int_n, int_i, int_bn, add_n, ix_ln, ix_rn, ix_tn, list_l, list_t, few0, few1, few2, few3, few5, lt_n, gt_n, le_n, eqF_n, neF_n, rng1_m, flT_nx, flT_rt, flF_nx, flE_rt, un2_t, un3_t, tru_l, tru_b, app_n, cap_n, flat_n, flat_bl, optI_n, sl_n, zero_add_, wi, lis_name_e (gd_len lw (i + j)), nin_s]
    have aw : appM (r.map sD) (sD (ws.getD (i + j) [])) = some (ssD (r ++ [ws.getD (i + j) []])) := appW (by omega)
    by_cases h2 : r.length = j
    · rw [decide_eq_true h2]
      cases e : nmB (ws.getD (i + j) []) with
      | false => simp
      | true =>
        by_cases h3 : ws.getD (i + j) [] ∈ r
        · rw [decide_eq_true h3]; simp
        · rw [decide_eq_false h3]; simp [h2, aw, -List.getD_eq_getElem?_getD]
    · rw [decide_eq_false h2]; simp [h2]
  · rw [decide_eq_false h1, gd_nil h1, nmB_nil]; simp
end
end Oh
namespace Oh
open PySem L2 TL
section
variable {ws : List (List Nat)} {nm : List (List Nat)} {i : Nat}
/-- the numbers of the names heard from word j on, none below lo -/
noncomputable def hearL (ws nm : List (List Nat)) : Nat → Nat → Nat → List Nat
  | 0, _, _ => []
  | f + 1, lo, j => match ixN nm (ws.getD j []) with
    | some u => if u < lo then [] else u :: hearL ws nm f (u + 1) (j + 1)
    | none => []
theorem hear_fuel : ∀ (f lo j : Nat), nm.length ≤ lo + f → hearL ws nm (f + 1) lo j = hearL ws nm f lo j
  | 0, lo, j, h => by
    unfold hearL
    cases e : ixN nm (ws.getD j []) with
    | none => rfl
    | some u => exact if_pos (by have := ix_lt e; omega)
  | f + 1, lo, j, h => by
    rw [hearL.eq_def ws nm (f + 2), hearL.eq_def ws nm (f + 1)]
    dsimp only
    cases e : ixN nm (ws.getD j []) with
    | none => rfl
    | some u =>
      dsimp only
      by_cases z : u < lo
      · rw [if_pos z, if_pos z]
      · rw [if_neg z, if_neg z, hear_fuel f (u + 1) (j + 1) (by omega)]
theorem hear_le (hn : [] ∉ nm) : ∀ (f lo j : Nat), j ≤ ws.length → j + (hearL ws nm f lo j).length ≤ ws.length
  | 0, _, _, h => h
  | f + 1, lo, j, h => by
    unfold hearL
    cases e : ixN nm (ws.getD j []) with
    | none => exact h
    | some u =>
      dsimp only
      by_cases z : u < lo
      · rw [if_pos z]; exact h
      · rw [if_neg z, List.length_cons]
        have := in_lt (ix_mem e) hn
        have := hear_le hn f (u + 1) (j + 1) (by omega)
        omega
theorem hear_len : ∀ (f lo j : Nat), (hearL ws nm f lo j).length ≤ f
  | 0, _, _ => Nat.le_refl _
  | f + 1, lo, j => by
    unfold hearL
    cases e : ixN nm (ws.getD j []) with
    | none => exact Nat.zero_le _
    | some u =>
      dsimp only
      by_cases z : u < lo
      · rw [if_pos z]; exact Nat.zero_le _
      · rw [if_neg z, List.length_cons]; exact Nat.succ_le_succ (hear_len f _ _)
theorem hear_asc : ∀ (f lo j : Nat), (hearL ws nm f lo j).Pairwise (· < ·) ∧ ∀ u ∈ hearL ws nm f lo j, lo ≤ u ∧ u < nm.length
  | 0, _, _ => ⟨.nil, fun _ h => nomatch h⟩
  | f + 1, lo, j => by
    unfold hearL
    cases e : ixN nm (ws.getD j []) with
    | none => exact ⟨.nil, fun _ h => nomatch h⟩
    | some u =>
      dsimp only
      by_cases z : u < lo
      · rw [if_pos z]; exact ⟨.nil, fun _ h => nomatch h⟩
      · rw [if_neg z]
        obtain ⟨h1, h2⟩ := hear_asc f (u + 1) (j + 1)
        refine ⟨.cons (fun x hx => by have := (h2 x hx).1; omega) h1, fun x hx => ?_⟩
        rcases List.mem_cons.mp hx with rfl | hx
        · exact ⟨by omega, ix_lt e⟩
        · have := h2 x hx; omega
/-! the law's reader of what is heard -/
noncomputable def loOf (r : List Nat) : Nat := (r.getLast?.map (· + 1)).getD 0
theorem lo_snoc {d : List Nat} {x : Nat} : loOf (d ++ [x]) = x + 1 := by unfold loOf; rw [List.getLast?_append]; rfl
noncomputable def stepH (nm : List (List Nat)) (w : List Nat) (r : List Nat) : List Nat := match ixN nm w with | some u => if u < loOf r then r else r ++ [u] | none => r
theorem snoc_of (r : List Nat) : r = [] ∨ ∃ d x, r = d ++ [x] := by
  rcases List.eq_nil_or_concat r with h | ⟨d, x, h⟩
  · exact .inl h
  · exact .inr ⟨d, x, by rw [h, List.concat_eq_append]⟩
theorem app_n1 {r : List Nat} {x : Nat} (h : r.length < 100000) : dApp (dl r) (dn x) = some (dl (r ++ [x])) := by
  show (if (dns r).length < 100000 then some (D.lst (dns r ++ [dn x])) else none) = _
  rw [dns_len, if_pos h, dl]
  exact congrArg (fun z => some (D.lst z)) (List.map_append (l₁ := r) (l₂ := [x])).symm
theorem lhear_for {k : D → D → Option D} {p : Nat} (hk : ∀ j r, j < nm.length → r.length ≤ j → k (dn j) (dl r) = some (dl (stepH nm (if r.length = j then ws.getD (p + j) [] else []) r))) (hn : [] ∉ nm) :
    ∀ (m j : Nat) (r : List Nat), j + m = nm.length → r.length ≤ j → forS k (dns (List.range' j m)) (dl r) = some (dl (if r.length = j then r ++ hearL ws nm m (loOf r) (p + j) else r))
  | 0, j, r, _, _ => by
    show some (dl r) = _
    split
    · rw [hearL, List.append_nil]
    · rfl
  | m + 1, j, r, e, hr => by
    rw [List.range'_succ]
    show (k (dn j) (dl r)).bind (fun b => forS k (dns (List.range' (j + 1) m)) b) = _
    rw [hk j r (by omega) hr]
    show forS k _ (dl _) = _
    by_cases h : r.length = j
    · rw [if_pos h, if_pos h]
      unfold stepH
      rw [hearL.eq_def ws nm (m + 1)]
      dsimp only
      cases e2 : ixN nm (ws.getD (p + j) []) with
      | none =>
        dsimp only
        rw [lhear_for hk hn m (j + 1) r (by omega) (by omega), if_neg (by omega), List.append_nil]
      | some u =>
        dsimp only
        by_cases z : u < loOf r
        · rw [if_pos z, if_pos z, lhear_for hk hn m (j + 1) r (by omega) (by omega), if_neg (by omega), List.append_nil]
        · rw [if_neg z, if_neg z, lhear_for hk hn m (j + 1) (r ++ [u]) (by omega) (by rw [List.length_append]; show r.length + 1 ≤ _; omega), if_pos (by rw [List.length_append]; show r.length + 1 = _; omega), lo_snoc, List.append_assoc]
          rfl
    · rw [if_neg h, if_neg h]
      have : stepH nm [] r = r := by unfold stepH; rw [ix_no hn]
      rw [this, lhear_for hk hn m (j + 1) r (by omega) (by omega), if_neg (by omega)]
theorem lhear_ok {p : Nat} (hn : [] ∉ nm) (hl : nm.length ≤ 5) (hw : ws.length ≤ 1000) : m_law_read_heard (ssD ws) (dn p) (ssD nm) = some (dl (hearL ws nm nm.length 0 p)) := by
  unfold m_law_read_heard
  simp -implicitDefEqProofs only [Option.bind_some, Option.map_some, if_true_, if_ff, if_T, if_F, on0_s, on1_s, on2_s, on3_s, on4_s, on5_s, on6_s, asL_l, asL_r, asT_t, asB_b, len_l, len_r, len_t, l_0, l_1, l_2, l_3, l_4, l_5, l_6, l_7, l_8, l_9, l_10, l_11, l_12, l_13, l_14, l_15, l_20, l_21, l_22, l_25, l_26, l_30, l_31, l_32, l_36, l_38, l_40, l_60, l_64, l_70, l_96, l_97, l_100, l_128, l_512, l_7919, int_n, int_i, int_bn, add_n, ix_ln, ix_rn, ix_tn, list_l, list_t, few0, few1, few2, few3, few5, lt_n, gt_n, le_n, eqF_n, neF_n, rng1_m, flT_nx, flT_rt, flF_nx, flE_rt, un2_t, un3_t, tru_l, tru_b, app_n, cap_n, flat_n, flat_bl, optI_n, sl_n, zero_add_, lit_s, wd_nil, List.length_map, rng_s (n := nm.length) (by omega), neg1]
  rw [List.range_eq_range']
  refine (bind_of (lhear_for (ws := ws) (nm := nm) (p := p) (fun j r hj hr => ?_) hn nm.length 0 [] (Nat.zero_add _) (Nat.le_refl _))).trans rfl
  have q0 : dEq (dl r) (D.lst []) = some (.bl (decide (r = []))) := eq_dl0
  have fin : ∀ w : List Nat, w = (if r.length = j then ws.getD (p + j) [] else []) → ((((dIn (sD w) (ssD nm)).bind asB).bind fun c_39 => if c_39 = true then ((dEq (dl r) (D.lst [])).bind asB).bind fun c_38 => if c_38 = true then some true else (dIndex (ssD nm) (sD w)).bind fun t36 => (dIx (dl r) (D.int (-1))).bind fun t37 => (dGt t36 t37).bind asB else some false).bind fun c_40 => if c_40 = true then (dIndex (ssD nm) (sD w)).bind fun t44 => appM (dns r) t44 else some (dl r)) = some (dl (stepH nm (if r.length = j then ws.getD (p + j) [] else []) r)) := fun w ew => by
    rw [← ew, mem_s, index_f, q0]
    unfold stepH
    cases e : ixN nm w with
    | none => rw [decide_eq_false (ix_none e)]; rfl
    | some u =>
      rw [decide_eq_true (ix_mem e)]
      dsimp only
      rcases snoc_of r with rfl | ⟨d, x, rfl⟩
      · rw [decide_eq_true rfl, if_neg (show ¬ u < loOf [] from Nat.not_lt_zero _)]
        rfl
      · rw [decide_eq_false (by simp), lo_snoc, last_ix]
        simp -implicitDefEqProofs only [Option.bind_some, Option.map_some, if_true_, if_ff, if_T, if_F, on0_s, on1_s, on2_s, on3_s, on4_s, on5_s, on6_s, asL_l, asL_r, asT_t, asB_b, len_l, len_r, len_t, l_0, l_1, l_2, l_3, l_4, l_5, l_6, l_7, l_8, l_9, l_10, l_11, l_12, l_13, l_14, l_15, l_20, l_21, l_22, l_25, l_26, l_30, l_31, l_32, l_36, l_38, l_40, l_60, l_64, l_70, l_96, l_97, l_100, l_128, l_512, l_7919, int_n, int_i, int_bn, add_n, ix_ln, ix_rn, ix_tn, list_l, list_t, few0, few1, few2, few3, few5, lt_n, gt_n, le_n, eqF_n, neF_n, rng1_m, flT_nx, flT_rt, flF_nx, flE_rt, un2_t, un3_t, tru_l, tru_b, app_n, cap_n, flat_n, flat_bl, optI_n, sl_n, zero_add_]
        by_cases z : u < x + 1
        · rw [if_pos z, decide_eq_false (by omega)]; rfl
        · rw [if_neg z, decide_eq_true (by omega)]
          exact app_n1 (by have := hr; omega)
  simp -implicitDefEqProofs only [Option.bind_some, Option.map_some, if_true_, if_ff, if_T, if_F, on0_s, on1_s, on2_s, on3_s, on4_s, on5_s, on6_s, asL_l, asL_r, asT_t, asB_b, len_l, len_r, len_t, l_0, l_1, l_2, l_3, l_4, l_5, l_6, l_7, l_8, l_9, l_10, l_11, l_12, l_13, l_14, l_15, l_20, l_21, l_22, l_25, l_26, l_30, l_31, l_32, l_36, l_38, l_40, l_60, l_64, l_70, l_96, l_97, l_100, l_128, l_512, l_7919, int_n, int_i, int_bn, add_n, ix_ln, ix_rn, ix_tn, list_l, list_t, few0, few1, few2, few3, few5, lt_n, gt_n, le_n, eqF_n, neF_n, rng1_m, flT_nx, flT_rt, flF_nx, flE_rt, un2_t, un3_t, tru_l, tru_b, app_n, cap_n, flat_n, flat_bl, optI_n, sl_n, zero_add_, List.length_map, dns_len]
  by_cases h1 : p + j < ws.length
  · have wi := ls_at (ls := ws) h1
    rw [decide_eq_true h1]
    by_cases h2 : r.length = j
    · simp -implicitDefEqProofs only [Option.bind_some, Option.map_some, if_true_, if_ff, if_T, if_F, on0_s, on1_s, on2_s, on3_s, on4_s, on5_s, on6_s, asL_l, asL_r, asT_t, asB_b, len_l, len_r, len_t, l_0, l_1, l_2, l_3, l_4, l_5, l_6, l_7, l_8, l_9, l_10, l_11, l_12, l_13, l_14, l_15, l_20, l_21, l_22, l_25, l_26, l_30, l_31, l_32, l_36, l_38, l_40, l_60, l_64, l_70, l_96, l_97, l_100, l_128, l_512, l_7919, int_n, int_i, int_bn, add_n, ix_ln, ix_rn, ix_tn, list_l, list_t, few0, few1, few2, few3, few5, lt_n, gt_n, le_n, eqF_n, neF_n, rng1_m, flT_nx, flT_rt, flF_nx, flE_rt, un2_t, un3_t, tru_l, tru_b, app_n, cap_n, flat_n, flat_bl, optI_n, sl_n, zero_add_, decide_eq_true h2, wi]
      simpa [-List.getD_eq_getElem?_getD] using fin (ws.getD (p + j) []) (by rw [if_pos h2])
    · simp -implicitDefEqProofs only [Option.bind_some, Option.map_some, if_true_, if_ff, if_T, if_F, on0_s, on1_s, on2_s, on3_s, on4_s, on5_s, on6_s, asL_l, asL_r, asT_t, asB_b, len_l, len_r, len_t, l_0, l_1, l_2, l_3, l_4, l_5, l_6, l_7, l_8, l_9, l_10, l_11, l_12, l_13, l_14, l_15, l_20, l_21, l_22, l_25, l_26, l_30, l_31, l_32, l_36, l_38, l_40, l_60, l_64, l_70, l_96, l_97, l_100, l_128, l_512, l_7919, int_n, int_i, int_bn, add_n, ix_ln, ix_rn, ix_tn, list_l, list_t, few0, few1, few2, few3, few5, lt_n, gt_n, le_n, eqF_n, neF_n, rng1_m, flT_nx, flT_rt, flF_nx, flE_rt, un2_t, un3_t, tru_l, tru_b, app_n, cap_n, flat_n, flat_bl, optI_n, sl_n, zero_add_, decide_eq_false h2]
      simpa [-List.getD_eq_getElem?_getD] using fin [] (by rw [if_neg h2])
  · rw [decide_eq_false h1]
    simpa [-List.getD_eq_getElem?_getD] using fin [] (by split; exact (gd_nil h1).symm; rfl)
end
end Oh
namespace Oh
open PySem L2 TL
section
variable {ws : List (List Nat)} {nm : List (List Nat)} {i : Nat}
noncomputable def heardP (ws nm : List (List Nat)) (i : Nat) : Except Nat (List Nat × Nat) :=
  if ws.getD i [] ∈ alw nm then
    (if ws.getD i [] = Wd "end" then .ok ([], i + 1)
    else if hearL ws nm nm.length 0 (i + 1) = [] then .error (i + 1)
    else if ws.getD (i + 1 + (hearL ws nm nm.length 0 (i + 1)).length) [] = Wd "end" then .ok (hearL ws nm nm.length 0 (i + 1), i + 1 + (hearL ws nm nm.length 0 (i + 1)).length + 1)
    else .error (i + 1 + (hearL ws nm nm.length 0 (i + 1)).length))
  else .error i
theorem hear_loop {c : D × D → Rs (Bool × (D × D))} {k : D × D → Rs (D × D)} (nd : nm.Nodup) (hn : [] ∉ nm) (he : Wd "end" ∉ nm)
    (hc : ∀ d j, j ≤ ws.length → c (dl d, rdV ws j) = some (.ok (!decide (ws.getD j [] = Wd "end"), (dl d, rdV ws j))))
    (hk : ∀ d x j, j ≤ ws.length → d.length < 900 → k (dl (d ++ [x]), rdV ws j) = match ixN (nm.drop (x + 1)) (ws.getD j []) with | some v => some (.ok (dl (d ++ [x] ++ [x + 1 + v]), rdV ws (j + 1))) | none => some (.error (.fl 2 j))) :
    ∀ (f : Nat) (d : List Nat) (x j fuel : Nat), nm.length ≤ x + 1 + f → f < fuel → d.length + f < 900 → j ≤ ws.length →
      whE c k fuel (dl (d ++ [x]), rdV ws j) = if ws.getD (j + (hearL ws nm f (x + 1) j).length) [] = Wd "end" then some (.ok (dl (d ++ [x] ++ hearL ws nm f (x + 1) j), rdV ws (j + (hearL ws nm f (x + 1) j).length))) else some (.error (.fl 2 (j + (hearL ws nm f (x + 1) j).length : Nat)))
  | f, d, x, j, 0, _, hf, _, _ => absurd hf (Nat.not_lt_zero _)
  | f, d, x, j, fuel + 1, hx, hf, hd, hj => by
    have stop : hearL ws nm f (x + 1) j = [] → ixN (nm.drop (x + 1)) (ws.getD j []) = none ∨ ws.getD j [] = Wd "end" → whE c k (fuel + 1) (dl (d ++ [x]), rdV ws j) = if ws.getD (j + (hearL ws nm f (x + 1) j).length) [] = Wd "end" then some (.ok (dl (d ++ [x] ++ hearL ws nm f (x + 1) j), rdV ws (j + (hearL ws nm f (x + 1) j).length))) else some (.error (.fl 2 (j + (hearL ws nm f (x + 1) j).length : Nat))) := fun e1 e2 => by
      rw [e1]
      show thenR (c (dl (d ++ [x]), rdV ws j)) _ = _
      rw [hc _ j hj, then_ok, List.append_nil]
      show (if (!decide (ws.getD j [] = Wd "end")) = true then thenR (k (dl (d ++ [x]), rdV ws j)) _ else some (.ok (dl (d ++ [x]), rdV ws j))) = if ws.getD j [] = Wd "end" then _ else _
      by_cases z : ws.getD j [] = Wd "end"
      · rw [if_pos z, decide_eq_true z]; rfl
      · rw [if_neg z, decide_eq_false z]
        rcases e2 with e2 | e2
        · show thenR (k (dl (d ++ [x]), rdV ws j)) _ = _
          rw [hk d x j hj (by omega), e2]; rfl
        · exact absurd e2 z
    have dr := ix_drop (a := ws.getD j []) (lo := x + 1) nd
    cases e : ixN nm (ws.getD j []) with
    | none =>
      refine stop ?_ (.inl (by rw [dr, e]; rfl))
      cases f with
      | zero => rfl
      | succ f => unfold hearL; rw [e]
    | some u =>
      by_cases z : u < x + 1
      · refine stop ?_ (.inl (by rw [dr, e]; exact if_pos z))
        cases f with
        | zero => rfl
        | succ f => unfold hearL; rw [e]; exact if_pos z
      · cases f with
        | zero => have := ix_lt e; omega
        | succ f =>
          have hne : ws.getD j [] ≠ Wd "end" := fun y => he (y ▸ ix_mem e)
          have hl := in_lt (ix_mem e) hn
          have eh : hearL ws nm (f + 1) (x + 1) j = u :: hearL ws nm f (u + 1) (j + 1) := by
            rw [hearL.eq_def]; dsimp only; rw [e]; exact if_neg z
          rw [eh]
          show thenR (c (dl (d ++ [x]), rdV ws j)) _ = _
          rw [hc _ j hj, then_ok, decide_eq_false hne]
          show thenR (k (dl (d ++ [x]), rdV ws j)) _ = _
          rw [hk d x j hj (by omega), dr, e]
          show thenR (match (if u < x + 1 then none else some (u - (x + 1))) with | some v => _ | none => _) _ = _
          rw [if_neg z]
          show whE c k fuel (dl (d ++ [x] ++ [x + 1 + (u - (x + 1))]), rdV ws (j + 1)) = _
          rw [show x + 1 + (u - (x + 1)) = u by omega, hear_loop nd hn he hc hk f (d ++ [x]) u (j + 1) fuel (by omega) (by omega) (by rw [List.length_append]; show d.length + 1 + f < 900; omega) (by omega)]
          rw [List.length_cons, show j + 1 + (hearL ws nm f (u + 1) (j + 1)).length = j + ((hearL ws nm f (u + 1) (j + 1)).length + 1) by omega]
          rw [List.append_assoc (d ++ [x]) [u]]; rfl
theorem alw_nil : [] ∉ alw nm := by unfold alw; split <;> decide +kernel
theorem sl_from {l : List (List Nat)} {lo : Nat} : cutD (l.map sD) (some (lo : Int)) none = (l.drop lo).map sD := by rw [cutD_from, List.map_drop]
theorem heard_ok (nd : nm.Nodup) (hn : [] ∉ nm) (he : Wd "end" ∉ nm) (hl : nm.length ≤ 5) (hi : i ≤ ws.length) (hw : ws.length ≤ 1000) : own1E e_read_heard (rdV ws i) [ssD nm] = toE (heardP ws nm i) (fun p => (dl p.1, rdV ws p.2)) := by
  show e_read_heard (rdV ws i) (ssD nm) = _
  unfold e_read_heard r_read_heard heardP
  have ea : (if (!(nm.map sD).isEmpty) = true then some (D.lst [sD (Wd "hears"), sD (Wd "end")]) else some (D.lst [sD (Wd "end")])) = some (ssD (alw nm)) := alw_ok nm
  simp -implicitDefEqProofs only [Option.bind_some, Option.map_some, if_true_, if_ff, if_T, if_F, on0_s, on1_s, on2_s, on3_s, on4_s, on5_s, on6_s, asL_l, asL_r, asT_t, asB_b, len_l, len_r, len_t, l_0, l_1, l_2, l_3, l_4, l_5, l_6, l_7, l_8, l_9, l_10, l_11, l_12, l_13, l_14, l_15, l_20, l_21, l_22, l_25, l_26, l_30, l_31, l_32, l_36, l_38, l_40, l_60, l_64, l_70, l_96, l_97, l_100, l_128, l_512, l_7919, int_n, int_i, int_bn, add_n, ix_ln, ix_rn, ix_tn, list_l, list_t, few0, few1, few2, few3, few5, lt_n, gt_n, le_n, eqF_n, neF_n, rng1_m, flT_nx, flT_rt, flF_nx, flE_rt, un2_t, un3_t, tru_l, tru_b, app_n, cap_n, flat_n, flat_bl, optI_n, sl_n, zero_add_, lit_s, okR_s, then_ok]
  rw [tk_v (al := alw nm) (ws := ws) (i := i) ea hi hw]
  by_cases h0 : ws.getD i [] ∈ alw nm
  · have l0 := in_lt h0 alw_nil
    rw [if_pos h0, if_pos h0, then_ok]
    simp -implicitDefEqProofs only [Option.bind_some, Option.map_some, if_true_, if_ff, if_T, if_F, on0_s, on1_s, on2_s, on3_s, on4_s, on5_s, on6_s, asL_l, asL_r, asT_t, asB_b, len_l, len_r, len_t, l_0, l_1, l_2, l_3, l_4, l_5, l_6, l_7, l_8, l_9, l_10, l_11, l_12, l_13, l_14, l_15, l_20, l_21, l_22, l_25, l_26, l_30, l_31, l_32, l_36, l_38, l_40, l_60, l_64, l_70, l_96, l_97, l_100, l_128, l_512, l_7919, int_n, int_i, int_bn, add_n, ix_ln, ix_rn, ix_tn, list_l, list_t, few0, few1, few2, few3, few5, lt_n, gt_n, le_n, eqF_n, neF_n, rng1_m, flT_nx, flT_rt, flF_nx, flE_rt, un2_t, un3_t, tru_l, tru_b, app_n, cap_n, flat_n, flat_bl, optI_n, sl_n, zero_add_, eqF_s, okR_s, then_ok]
    by_cases h1 : ws.getD i [] = Wd "end"
    · rw [if_pos h1, decide_eq_true h1]; rfl
    · rw [if_neg h1, decide_eq_false h1]
      simp -implicitDefEqProofs only [Option.bind_some, Option.map_some, if_true_, if_ff, if_T, if_F, on0_s, on1_s, on2_s, on3_s, on4_s, on5_s, on6_s, asL_l, asL_r, asT_t, asB_b, len_l, len_r, len_t, l_0, l_1, l_2, l_3, l_4, l_5, l_6, l_7, l_8, l_9, l_10, l_11, l_12, l_13, l_14, l_15, l_20, l_21, l_22, l_25, l_26, l_30, l_31, l_32, l_36, l_38, l_40, l_60, l_64, l_70, l_96, l_97, l_100, l_128, l_512, l_7919, int_n, int_i, int_bn, add_n, ix_ln, ix_rn, ix_tn, list_l, list_t, few0, few1, few2, few3, few5, lt_n, gt_n, le_n, eqF_n, neF_n, rng1_m, flT_nx, flT_rt, flF_nx, flE_rt, un2_t, un3_t, tru_l, tru_b, app_n, cap_n, flat_n, flat_bl, optI_n, sl_n, zero_add_]
      rw [ti_v (al := nm) (ws := ws) (i := i + 1) rfl l0 hw]
      have n1 : ¬ nm = [] := fun z => by
        rw [z] at h0
        have : ws.getD i [] = Wd "end" := List.mem_singleton.mp h0
        exact h1 this
      cases e : ixN nm (ws.getD (i + 1) []) with
      | none =>
        have e0 : hearL ws nm nm.length 0 (i + 1) = [] := by
          cases nm.length with
          | zero => rfl
          | succ f => unfold hearL; rw [e]
        rw [if_pos e0]; rfl
      | some u =>
        have hu := ix_lt e
        have e0 : hearL ws nm nm.length 0 (i + 1) = u :: hearL ws nm nm.length (u + 1) (i + 1 + 1) := by
          rw [← hear_fuel nm.length 0 (i + 1) (by omega), hearL.eq_def]; dsimp only; rw [e]; exact if_neg (Nat.not_lt_zero _)
        have l1 := in_lt (ix_mem e) hn
        rw [e0, if_neg (List.cons_ne_nil _ _)]
        have a0 : apR (D.lst []) (some (.ok (dn u, rdV ws (i + 1 + 1)))) = some (.ok (dl ([] ++ [u]), (dn u, rdV ws (i + 1 + 1)))) := rfl
        dsimp only
        rw [a0, then_ok]
        dsimp only
        rw [hear_loop (ws := ws) (nm := nm) nd hn he (fun d j hj => ?_) (fun d x j hj hd => ?_) nm.length [] u (i + 1 + 1) 1000 (by omega) (by omega) (by show 0 + nm.length < 900; omega) l1]
        · rw [List.length_cons, show i + 1 + ((hearL ws nm nm.length (u + 1) (i + 1 + 1)).length + 1) = i + 1 + 1 + (hearL ws nm nm.length (u + 1) (i + 1 + 1)).length by omega]
          have hle := hear_le (ws := ws) hn nm.length (u + 1) (i + 1 + 1) l1
          by_cases h2 : ws.getD (i + 1 + 1 + (hearL ws nm nm.length (u + 1) (i + 1 + 1)).length) [] = Wd "end"
          · rw [if_pos h2, if_pos h2, then_ok]
            dsimp only
            rw [tk_v (al := [Wd "end"]) (m := some (D.lst [sD (Wd "end")])) (ws := ws) (i := i + 1 + 1 + (hearL ws nm nm.length (u + 1) (i + 1 + 1)).length) rfl hle hw, if_pos (by rw [h2]; exact List.mem_cons_self)]
            rfl
          · rw [if_neg h2, if_neg h2]; rfl
        · simp -implicitDefEqProofs only [Option.bind_some, Option.map_some, if_true_, if_ff, if_T, if_F, on0_s, on1_s, on2_s, on3_s, on4_s, on5_s, on6_s, asL_l, asL_r, asT_t, asB_b, len_l, len_r, len_t, l_0, l_1, l_2, l_3, l_4, l_5, l_6, l_7, l_8, l_9, l_10, l_11, l_12, l_13, l_14, l_15, l_20, l_21, l_22, l_25, l_26, l_30, l_31, l_32, l_36, l_38, l_40, l_60, l_64, l_70, l_96, l_97, l_100, l_128, l_512, l_7919, int_n, int_i, int_bn, add_n, ix_ln, ix_rn, ix_tn, list_l, list_t, few0, few1, few2, few3, few5, lt_n, gt_n, le_n, eqF_n, neF_n, rng1_m, flT_nx, flT_rt, flF_nx, flE_rt, un2_t, un3_t, tru_l, tru_b, app_n, cap_n, flat_n, flat_bl, optI_n, sl_n, zero_add_, mt2, coming_ok hj, neF_s, okR_s, then_ok]
          rfl
        · simp -implicitDefEqProofs only [Option.bind_some, Option.map_some, if_true_, if_ff, if_T, if_F, on0_s, on1_s, on2_s, on3_s, on4_s, on5_s, on6_s, asL_l, asL_r, asT_t, asB_b, len_l, len_r, len_t, l_0, l_1, l_2, l_3, l_4, l_5, l_6, l_7, l_8, l_9, l_10, l_11, l_12, l_13, l_14, l_15, l_20, l_21, l_22, l_25, l_26, l_30, l_31, l_32, l_36, l_38, l_40, l_60, l_64, l_70, l_96, l_97, l_100, l_128, l_512, l_7919, int_n, int_i, int_bn, add_n, ix_ln, ix_rn, ix_tn, list_l, list_t, few0, few1, few2, few3, few5, lt_n, gt_n, le_n, eqF_n, neF_n, rng1_m, flT_nx, flT_rt, flF_nx, flE_rt, un2_t, un3_t, tru_l, tru_b, app_n, cap_n, flat_n, flat_bl, optI_n, sl_n, zero_add_, neg1, last_ix, flat_n, okR_s, then_ok, sl_from]
          rw [ti_v (al := nm.drop (x + 1)) (ws := ws) (i := j) rfl hj hw]
          cases e2 : ixN (nm.drop (x + 1)) (ws.getD j []) with
          | none => rfl
          | some v =>
            have ap : appM (dns (d ++ [x])) (dn (x + 1 + v)) = some (dl (d ++ [x] ++ [x + 1 + v])) := app_n1 (r := d ++ [x]) (by rw [List.length_append]; show d.length + 1 < _; omega)
            simp -implicitDefEqProofs only [Option.bind_some, Option.map_some, if_true_, if_ff, if_T, if_F, on0_s, on1_s, on2_s, on3_s, on4_s, on5_s, on6_s, asL_l, asL_r, asT_t, asB_b, len_l, len_r, len_t, l_0, l_1, l_2, l_3, l_4, l_5, l_6, l_7, l_8, l_9, l_10, l_11, l_12, l_13, l_14, l_15, l_20, l_21, l_22, l_25, l_26, l_30, l_31, l_32, l_36, l_38, l_40, l_60, l_64, l_70, l_96, l_97, l_100, l_128, l_512, l_7919, int_n, int_i, int_bn, add_n, ix_ln, ix_rn, ix_tn, list_l, list_t, few0, few1, few2, few3, few5, lt_n, gt_n, le_n, eqF_n, neF_n, rng1_m, flT_nx, flT_rt, flF_nx, flE_rt, un2_t, un3_t, tru_l, tru_b, app_n, cap_n, flat_n, flat_bl, optI_n, sl_n, zero_add_, then_ok, okR_s, ap]
  · rw [if_neg h0, if_neg h0]; rfl
end
end Oh
namespace Oh
open PySem L2 TL
section
variable {ws : List (List Nat)} {nm : List (List Nat)} {i : Nat}
theorem cut_q (lw : ∀ s ∈ ws, WOk s) {s : String} {b : Nat} (hb : (Wd s).all (fun c => decide (c < 0x110000)) = true) (hn : Wd s ≠ []) (e : b = i + 1) : dEq (D.lst (cutD (List.map sD ws) (some ((i : Nat) : Int)) (some ((b : Nat) : Int)))) (D.lst [D.str (Str.ofString s)]) = some (.bl (decide (ws.getD i [] = Wd s))) := by
  subst e
  rw [lit_s, cut_one, ← List.map_drop, ← List.map_take]
  refine (eq_ls (a := (ws.drop i).take 1) (b := [Wd s]) (fun c hc => (lw c (List.mem_of_mem_drop (List.mem_of_mem_take hc))).low) (fun c hc => by rw [List.mem_singleton.mp hc]; exact lowW hb)).trans ?_
  rw [drop_one]
  by_cases h : i < ws.length
  · rw [if_pos h]
    by_cases y : ws.getD i [] = Wd s
    · rw [decide_eq_true y, decide_eq_true (by rw [y])]
    · rw [decide_eq_false y, decide_eq_false fun z => y (List.cons.inj z).1]
  · rw [if_neg h, gd_nil h, decide_eq_false (show ¬ [] = [Wd s] from fun z => nomatch z), decide_eq_false (show ¬ [] = Wd s from fun z => hn z.symm)]
theorem cut_p (lw : ∀ s ∈ ws, WOk s) {s : String} {b : Nat} (hb : (Wd s).all (fun c => decide (c < 0x110000)) = true) (hn : Wd s ≠ []) (e : b = i + 1) : dNe (D.lst (cutD (List.map sD ws) (some ((i : Nat) : Int)) (some ((b : Nat) : Int)))) (D.lst [D.str (Str.ofString s)]) = some (.bl (!decide (ws.getD i [] = Wd s))) := ne_of (cut_q lw hb hn e)
noncomputable abbrev VarT := List Nat × List (List Nat) × List Nat × Nat
noncomputable def varP (ws nm : List (List Nat)) (i : Nat) : Except Nat VarT :=
  if newB nm (ws.getD (i + 1) []) = true then
    (if ws.getD (i + 2) [] = Wd "says" then
      (match ownP ws (i + 3) with
      | .error e => .error e
      | .ok p => (match heardP ws nm p.2 with
        | .error e => .error e
        | .ok q => .ok (ws.getD (i + 1) [], p.1, q.1, q.2)))
    else .error (i + 2))
  else .error (i + 1)
noncomputable def varL (ws nm : List (List Nat)) (i : Nat) : Except Nat VarT := if ws.getD i [] = Wd "variable" then varP ws nm i else .error i
noncomputable def varD : Except Nat VarT → D
  | .ok p => .tup [.int (-1), .tup [sD p.1, ssD p.2.1, dl p.2.2.1], dn p.2.2.2]
  | .error k => .tup [dn k, .non, dn 0]
theorem vO_n {k : Nat} : vO shLv (.tup [dn k, .non, dn 0]) = some (.tup [dn k, .non, dn 0]) := rfl
theorem flV_nx {β : Type} {sh : D → Sh} {k : β → Option D} {b : β} : flV sh k (.nx b) = k b := rfl
theorem flV_rt {β : Type} {sh : D → Sh} {k : β → Option D} {d : D} : flV sh k (.rt d) = vO sh d := rfl
theorem bN_f {a b c d e : D} : bNon (.tup [a, .tup [b, c, d], e]) = false := rfl
theorem nm_hears {w : List Nat} (h : nmB w = true) : w ≠ Wd "hears" ∧ w ≠ Wd "end" := ⟨fun z => by rw [z] at h; exact absurd h (by decide +kernel), fun z => by rw [z] at h; exact absurd h (by decide +kernel)⟩
/-- both readers of a variable's own words -/
theorem own_both (ws : List (List Nat)) (j : Nat) : (2 ≤ (ownS ws j).length ∧ ownP ws j = .ok (ownS ws j, j + (ownS ws j).length)) ∨ ((ownS ws j).length < 2 ∧ ownP ws j = .error (j + (ownS ws j).length)) ∨ ((ownS ws j).length = 2 ∧ nmB (ws.getD (j + 2) []) = true ∧ ownP ws j = .error (j + 2)) := by
  unfold ownS ownP
  by_cases h0 : newB [] (ws.getD j []) = true
  · rw [if_pos h0, if_pos h0]
    by_cases h1 : newB [ws.getD j []] (ws.getD (j + 1) []) = true
    · rw [if_pos h1, if_pos h1]
      by_cases h2 : newB [ws.getD j [], ws.getD (j + 1) []] (ws.getD (j + 2) []) = true
      · have h3 : nmB (ws.getD (j + 2) []) = true := by unfold newB at h2; exact (Bool.and_eq_true_iff.mp h2).1
        rw [if_pos h2, if_pos h3, if_pos h2]
        exact .inl ⟨by simp, rfl⟩
      · rw [if_neg h2]
        by_cases h3 : nmB (ws.getD (j + 2) []) = true
        · rw [if_pos h3, if_neg h2]
          exact .inr (.inr ⟨rfl, h3, rfl⟩)
        · rw [if_neg h3]
          exact .inl ⟨by simp, rfl⟩
    · rw [if_neg h1, if_neg h1]
      exact .inr (.inl ⟨by simp, rfl⟩)
  · rw [if_neg h0, if_neg h0]
    exact .inr (.inl ⟨by simp, rfl⟩)
theorem own_len (ws : List (List Nat)) (j : Nat) : (ownS ws j).length ≤ 3 := by
  unfold ownS
  split
  · split
    · split <;> simp
    · simp
  · simp
theorem lvar_ok (lw : ∀ s ∈ ws, WOk s) (hn : [] ∉ nm) (hl : nm.length ≤ 5) (hi : i ≤ ws.length) (hw : ws.length ≤ 900) : m_law_read_variable (ssD ws) (dn i) (ssD nm) = some (varD (varL ws nm i)) := by
  unfold m_law_read_variable r_law_read_variable varL
  have c0 := cut_p (i := i) (b := i + 1) lw (s := "variable") (by decide +kernel) (by decide +kernel) rfl
  have c2 := cut_p (i := i + 2) (b := i + 3) lw (s := "says") (by decide +kernel) (by decide +kernel) rfl
  simp -implicitDefEqProofs only [Option.bind_some, Option.map_some, if_true_, if_ff, if_T, if_F, on0_s, on1_s, on2_s, on3_s, on4_s, on5_s, on6_s, asL_l, asL_r, asT_t, asB_b, len_l, len_r, len_t, l_0, l_1, l_2, l_3, l_4, l_5, l_6, l_7, l_8, l_9, l_10, l_11, l_12, l_13, l_14, l_15, l_20, l_21, l_22, l_25, l_26, l_30, l_31, l_32, l_36, l_38, l_40, l_60, l_64, l_70, l_96, l_97, l_100, l_128, l_512, l_7919, int_n, int_i, int_bn, add_n, ix_ln, ix_rn, ix_tn, list_l, list_t, few0, few1, few2, few3, few5, lt_n, gt_n, le_n, eqF_n, neF_n, rng1_m, flT_nx, flT_rt, flF_nx, flE_rt, un2_t, un3_t, tru_l, tru_b, app_n, cap_n, flat_n, flat_bl, optI_n, sl_n, zero_add_, c0, List.length_map]
  by_cases h0 : ws.getD i [] = Wd "variable"
  · rw [if_pos h0, decide_eq_true h0]
    simp -implicitDefEqProofs only [Option.bind_some, Option.map_some, if_true_, if_ff, if_T, if_F, on0_s, on1_s, on2_s, on3_s, on4_s, on5_s, on6_s, asL_l, asL_r, asT_t, asB_b, len_l, len_r, len_t, l_0, l_1, l_2, l_3, l_4, l_5, l_6, l_7, l_8, l_9, l_10, l_11, l_12, l_13, l_14, l_15, l_20, l_21, l_22, l_25, l_26, l_30, l_31, l_32, l_36, l_38, l_40, l_60, l_64, l_70, l_96, l_97, l_100, l_128, l_512, l_7919, int_n, int_i, int_bn, add_n, ix_ln, ix_rn, ix_tn, list_l, list_t, few0, few1, few2, few3, few5, lt_n, gt_n, le_n, eqF_n, neF_n, rng1_m, flT_nx, flT_rt, flF_nx, flE_rt, un2_t, un3_t, tru_l, tru_b, app_n, cap_n, flat_n, flat_bl, optI_n, sl_n, zero_add_, Bool.not_true, ge_n]
    unfold varP newB
    by_cases l1 : i + 1 < ws.length
    · have w1 := ls_at (ls := ws) l1
      rw [decide_eq_false (show ¬ ws.length ≤ i + 1 by omega)]
      simp -implicitDefEqProofs only [Option.bind_some, Option.map_some, if_true_, if_ff, if_T, if_F, on0_s, on1_s, on2_s, on3_s, on4_s, on5_s, on6_s, asL_l, asL_r, asT_t, asB_b, len_l, len_r, len_t, l_0, l_1, l_2, l_3, l_4, l_5, l_6, l_7, l_8, l_9, l_10, l_11, l_12, l_13, l_14, l_15, l_20, l_21, l_22, l_25, l_26, l_30, l_31, l_32, l_36, l_38, l_40, l_60, l_64, l_70, l_96, l_97, l_100, l_128, l_512, l_7919, int_n, int_i, int_bn, add_n, ix_ln, ix_rn, ix_tn, list_l, list_t, few0, few1, few2, few3, few5, lt_n, gt_n, le_n, eqF_n, neF_n, rng1_m, flT_nx, flT_rt, flF_nx, flE_rt, un2_t, un3_t, tru_l, tru_b, app_n, cap_n, flat_n, flat_bl, optI_n, sl_n, zero_add_, w1, lis_name_e (gd_len lw (i + 1)), mem_s]
      by_cases hm : ws.getD (i + 1) [] ∈ nm
      · rw [decide_eq_true hm, Bool.not_true, Bool.and_false]
        cases nmB (ws.getD (i + 1) []) <;> rfl
      · rw [decide_eq_false hm, Bool.not_false, Bool.and_true]
        cases en : nmB (ws.getD (i + 1) []) with
        | false => rfl
        | true =>
          simp -implicitDefEqProofs only [Option.bind_some, Option.map_some, if_true_, if_ff, if_T, if_F, on0_s, on1_s, on2_s, on3_s, on4_s, on5_s, on6_s, asL_l, asL_r, asT_t, asB_b, len_l, len_r, len_t, l_0, l_1, l_2, l_3, l_4, l_5, l_6, l_7, l_8, l_9, l_10, l_11, l_12, l_13, l_14, l_15, l_20, l_21, l_22, l_25, l_26, l_30, l_31, l_32, l_36, l_38, l_40, l_60, l_64, l_70, l_96, l_97, l_100, l_128, l_512, l_7919, int_n, int_i, int_bn, add_n, ix_ln, ix_rn, ix_tn, list_l, list_t, few0, few1, few2, few3, few5, lt_n, gt_n, le_n, eqF_n, neF_n, rng1_m, flT_nx, flT_rt, flF_nx, flE_rt, un2_t, un3_t, tru_l, tru_b, app_n, cap_n, flat_n, flat_bl, optI_n, sl_n, zero_add_, Bool.not_true, c2]
          by_cases h2 : ws.getD (i + 2) [] = Wd "says"
          · rw [if_pos h2, decide_eq_true h2]
            have e1 := lown_ok (i := i + 3) lw (by omega)
            have hle := own_len ws (i + 3)
            simp -implicitDefEqProofs only [Option.bind_some, Option.map_some, if_true_, if_ff, if_T, if_F, on0_s, on1_s, on2_s, on3_s, on4_s, on5_s, on6_s, asL_l, asL_r, asT_t, asB_b, len_l, len_r, len_t, l_0, l_1, l_2, l_3, l_4, l_5, l_6, l_7, l_8, l_9, l_10, l_11, l_12, l_13, l_14, l_15, l_20, l_21, l_22, l_25, l_26, l_30, l_31, l_32, l_36, l_38, l_40, l_60, l_64, l_70, l_96, l_97, l_100, l_128, l_512, l_7919, int_n, int_i, int_bn, add_n, ix_ln, ix_rn, ix_tn, list_l, list_t, few0, few1, few2, few3, few5, lt_n, gt_n, le_n, eqF_n, neF_n, rng1_m, flT_nx, flT_rt, flF_nx, flE_rt, un2_t, un3_t, tru_l, tru_b, app_n, cap_n, flat_n, flat_bl, optI_n, sl_n, zero_add_, Bool.not_true, e1, List.length_map, flat_n]
            generalize eL : (ownS ws (i + 3)).length = L at *
            have cq := cut_q (i := i + 3 + L) (b := i + 3 + L + 1) lw (s := "hears") (by decide +kernel) (by decide +kernel) rfl
            have ce := cut_p (i := i + 3 + L) (b := i + 3 + L + 1) lw (s := "end") (by decide +kernel) (by decide +kernel) rfl
            have ch := lhear_ok (p := i + 3 + L + 1) hn hl (ws := ws) (by omega)
            have c3 := cut_p (i := i + 3 + L + 1 + (hearL ws nm nm.length 0 (i + 3 + L + 1)).length) (b := i + 3 + L + 1 + (hearL ws nm nm.length 0 (i + 3 + L + 1)).length + 1) lw (s := "end") (by decide +kernel) (by decide +kernel) rfl
            have q0 : dEq (dl (hearL ws nm nm.length 0 (i + 3 + L + 1))) (D.lst []) = some (.bl (decide (hearL ws nm nm.length 0 (i + 3 + L + 1) = []))) := eq_dl0
            have bth := own_both ws (i + 3)
            rw [eL] at bth
            have h01 : ¬ Wd "hears" = Wd "end" := by decide +kernel
            simp -implicitDefEqProofs only [Option.bind_some, Option.map_some, if_true_, if_ff, if_T, if_F, on0_s, on1_s, on2_s, on3_s, on4_s, on5_s, on6_s, asL_l, asL_r, asT_t, asB_b, len_l, len_r, len_t, l_0, l_1, l_2, l_3, l_4, l_5, l_6, l_7, l_8, l_9, l_10, l_11, l_12, l_13, l_14, l_15, l_20, l_21, l_22, l_25, l_26, l_30, l_31, l_32, l_36, l_38, l_40, l_60, l_64, l_70, l_96, l_97, l_100, l_128, l_512, l_7919, int_n, int_i, int_bn, add_n, ix_ln, ix_rn, ix_tn, list_l, list_t, few0, few1, few2, few3, few5, lt_n, gt_n, le_n, eqF_n, neF_n, rng1_m, flT_nx, flT_rt, flF_nx, flE_rt, un2_t, un3_t, tru_l, tru_b, app_n, cap_n, flat_n, flat_bl, optI_n, sl_n, zero_add_, cq, ch, dns_len, flat_n, q0, neg1]
            by_cases hL : L < 2
            · rw [decide_eq_true hL]
              rcases bth with ⟨a, _⟩ | ⟨_, b⟩ | ⟨a, _, _⟩
              · omega
              · rw [b]; rfl
              · omega
            · rw [decide_eq_false hL]
              have tl : ∀ z : Except Nat VarT, (match heardP ws nm (i + 3 + L) with | .error e => .error e | .ok q => .ok (ws.getD (i + 1) [], ownS ws (i + 3), q.1, q.2)) = z → (match ownP ws (i + 3) with | .error e => Except.error e | .ok p => (match heardP ws nm p.2 with | .error e => .error e | .ok q => .ok (ws.getD (i + 1) [], p.1, q.1, q.2))) = z := fun z ez => by
                rcases bth with ⟨_, b⟩ | ⟨a, _⟩ | ⟨a, b, c⟩
                · rw [b]; exact ez
                · omega
                · subst a
                  rw [c, ← ez]
                  have nk := nm_hears b
                  have : heardP ws nm (i + 3 + 2) = .error (i + 3 + 2) := by
                    unfold heardP
                    refine if_neg fun y => ?_
                    unfold alw at y
                    split at y
                    · exact nk.2 (List.mem_singleton.mp y)
                    · rcases List.mem_cons.mp y with y | y
                      · exact nk.1 y
                      · exact nk.2 (List.mem_singleton.mp y)
                  rw [this]
              rw [if_ff, tl _ rfl]
              by_cases n0 : nm = []
              · have em : (List.map sD nm).isEmpty = true := by rw [n0]; rfl
                have al : alw nm = [Wd "end"] := if_pos n0
                rw [em]
                by_cases z : ws.getD (i + 3 + L) [] = Wd "end"
                · have hp : heardP ws nm (i + 3 + L) = .ok ([], i + 3 + L + 1) := by
                    unfold heardP
                    rw [if_pos (by rw [al, z]; exact List.mem_cons_self), if_pos z]
                  rw [decide_eq_true z] at ce
                  simp -implicitDefEqProofs only [Option.bind_some, Option.map_some, if_true_, if_ff, if_T, if_F, on0_s, on1_s, on2_s, on3_s, on4_s, on5_s, on6_s, asL_l, asL_r, asT_t, asB_b, len_l, len_r, len_t, l_0, l_1, l_2, l_3, l_4, l_5, l_6, l_7, l_8, l_9, l_10, l_11, l_12, l_13, l_14, l_15, l_20, l_21, l_22, l_25, l_26, l_30, l_31, l_32, l_36, l_38, l_40, l_60, l_64, l_70, l_96, l_97, l_100, l_128, l_512, l_7919, int_n, int_i, int_bn, add_n, ix_ln, ix_rn, ix_tn, list_l, list_t, few0, few1, few2, few3, few5, lt_n, gt_n, le_n, eqF_n, neF_n, rng1_m, flT_nx, flT_rt, flF_nx, flE_rt, un2_t, un3_t, tru_l, tru_b, app_n, cap_n, flat_n, flat_bl, optI_n, sl_n, zero_add_, hp, flV_nx, ce, Bool.not_true, bN_f]
                  rfl
                · have hp : heardP ws nm (i + 3 + L) = .error (i + 3 + L) := by
                    unfold heardP
                    exact if_neg (by rw [al]; exact fun y => z (List.mem_singleton.mp y))
                  rw [decide_eq_false z] at ce
                  simp -implicitDefEqProofs only [Option.bind_some, Option.map_some, if_true_, if_ff, if_T, if_F, on0_s, on1_s, on2_s, on3_s, on4_s, on5_s, on6_s, asL_l, asL_r, asT_t, asB_b, len_l, len_r, len_t, l_0, l_1, l_2, l_3, l_4, l_5, l_6, l_7, l_8, l_9, l_10, l_11, l_12, l_13, l_14, l_15, l_20, l_21, l_22, l_25, l_26, l_30, l_31, l_32, l_36, l_38, l_40, l_60, l_64, l_70, l_96, l_97, l_100, l_128, l_512, l_7919, int_n, int_i, int_bn, add_n, ix_ln, ix_rn, ix_tn, list_l, list_t, few0, few1, few2, few3, few5, lt_n, gt_n, le_n, eqF_n, neF_n, rng1_m, flT_nx, flT_rt, flF_nx, flE_rt, un2_t, un3_t, tru_l, tru_b, app_n, cap_n, flat_n, flat_bl, optI_n, sl_n, zero_add_, hp, flV_nx, ce, Bool.not_true, Bool.not_false, vO_n]
                  rfl
              · have em : (List.map sD nm).isEmpty = false := by cases nm with | nil => exact absurd rfl n0 | cons a l => rfl
                have al : alw nm = [Wd "hears", Wd "end"] := if_neg n0
                rw [em, Bool.not_false, if_pos (rfl : true = true)]
                by_cases y : ws.getD (i + 3 + L) [] = Wd "hears"
                · have hm2 : ws.getD (i + 3 + L) [] ∈ alw nm := by rw [al, y]; exact List.mem_cons_self
                  have z : ¬ ws.getD (i + 3 + L) [] = Wd "end" := by rw [y]; exact h01
                  rw [decide_eq_true y]
                  by_cases h3 : hearL ws nm nm.length 0 (i + 3 + L + 1) = []
                  · have hp : heardP ws nm (i + 3 + L) = .error (i + 3 + L + 1) := by
                      unfold heardP
                      rw [if_pos hm2, if_neg z, if_pos h3]
                    rw [decide_eq_true h3]
                    simp -implicitDefEqProofs only [Option.bind_some, Option.map_some, if_true_, if_ff, if_T, if_F, on0_s, on1_s, on2_s, on3_s, on4_s, on5_s, on6_s, asL_l, asL_r, asT_t, asB_b, len_l, len_r, len_t, l_0, l_1, l_2, l_3, l_4, l_5, l_6, l_7, l_8, l_9, l_10, l_11, l_12, l_13, l_14, l_15, l_20, l_21, l_22, l_25, l_26, l_30, l_31, l_32, l_36, l_38, l_40, l_60, l_64, l_70, l_96, l_97, l_100, l_128, l_512, l_7919, int_n, int_i, int_bn, add_n, ix_ln, ix_rn, ix_tn, list_l, list_t, few0, few1, few2, few3, few5, lt_n, gt_n, le_n, eqF_n, neF_n, rng1_m, flT_nx, flT_rt, flF_nx, flE_rt, un2_t, un3_t, tru_l, tru_b, app_n, cap_n, flat_n, flat_bl, optI_n, sl_n, zero_add_, hp, flV_rt, vO_n]
                    rw [h3]
                    rfl
                  · rw [decide_eq_false h3]
                    by_cases h4 : ws.getD (i + 3 + L + 1 + (hearL ws nm nm.length 0 (i + 3 + L + 1)).length) [] = Wd "end"
                    · have hp : heardP ws nm (i + 3 + L) = .ok (hearL ws nm nm.length 0 (i + 3 + L + 1), i + 3 + L + 1 + (hearL ws nm nm.length 0 (i + 3 + L + 1)).length + 1) := by
                        unfold heardP
                        rw [if_pos hm2, if_neg z, if_neg h3, if_pos h4]
                      rw [decide_eq_true h4] at c3
                      simp -implicitDefEqProofs only [Option.bind_some, Option.map_some, if_true_, if_ff, if_T, if_F, on0_s, on1_s, on2_s, on3_s, on4_s, on5_s, on6_s, asL_l, asL_r, asT_t, asB_b, len_l, len_r, len_t, l_0, l_1, l_2, l_3, l_4, l_5, l_6, l_7, l_8, l_9, l_10, l_11, l_12, l_13, l_14, l_15, l_20, l_21, l_22, l_25, l_26, l_30, l_31, l_32, l_36, l_38, l_40, l_60, l_64, l_70, l_96, l_97, l_100, l_128, l_512, l_7919, int_n, int_i, int_bn, add_n, ix_ln, ix_rn, ix_tn, list_l, list_t, few0, few1, few2, few3, few5, lt_n, gt_n, le_n, eqF_n, neF_n, rng1_m, flT_nx, flT_rt, flF_nx, flE_rt, un2_t, un3_t, tru_l, tru_b, app_n, cap_n, flat_n, flat_bl, optI_n, sl_n, zero_add_, hp, flV_nx, c3, Bool.not_true, bN_f]
                      rfl
                    · have hp : heardP ws nm (i + 3 + L) = .error (i + 3 + L + 1 + (hearL ws nm nm.length 0 (i + 3 + L + 1)).length) := by
                        unfold heardP
                        rw [if_pos hm2, if_neg z, if_neg h3, if_neg h4]
                      rw [decide_eq_false h4] at c3
                      simp -implicitDefEqProofs only [Option.bind_some, Option.map_some, if_true_, if_ff, if_T, if_F, on0_s, on1_s, on2_s, on3_s, on4_s, on5_s, on6_s, asL_l, asL_r, asT_t, asB_b, len_l, len_r, len_t, l_0, l_1, l_2, l_3, l_4, l_5, l_6, l_7, l_8, l_9, l_10, l_11, l_12, l_13, l_14, l_15, l_20, l_21, l_22, l_25, l_26, l_30, l_31, l_32, l_36, l_38, l_40, l_60, l_64, l_70, l_96, l_97, l_100, l_128, l_512, l_7919, int_n, int_i, int_bn, add_n, ix_ln, ix_rn, ix_tn, list_l, list_t, few0, few1, few2, few3, few5, lt_n, gt_n, le_n, eqF_n, neF_n, rng1_m, flT_nx, flT_rt, flF_nx, flE_rt, un2_t, un3_t, tru_l, tru_b, app_n, cap_n, flat_n, flat_bl, optI_n, sl_n, zero_add_, hp, flV_nx, c3, Bool.not_false, vO_n]
                      rfl
                · rw [decide_eq_false y]
                  by_cases z : ws.getD (i + 3 + L) [] = Wd "end"
                  · have hp : heardP ws nm (i + 3 + L) = .ok ([], i + 3 + L + 1) := by
                      unfold heardP
                      rw [if_pos (by rw [al, z]; exact List.mem_cons_of_mem _ List.mem_cons_self), if_pos z]
                    rw [decide_eq_true z] at ce
                    simp -implicitDefEqProofs only [Option.bind_some, Option.map_some, if_true_, if_ff, if_T, if_F, on0_s, on1_s, on2_s, on3_s, on4_s, on5_s, on6_s, asL_l, asL_r, asT_t, asB_b, len_l, len_r, len_t, l_0, l_1, l_2, l_3, l_4, l_5, l_6, l_7, l_8, l_9, l_10, l_11, l_12, l_13, l_14, l_15, l_20, l_21, l_22, l_25, l_26, l_30, l_31, l_32, l_36, l_38, l_40, l_60, l_64, l_70, l_96, l_97, l_100, l_128, l_512, l_7919, int_n, int_i, int_bn, add_n, ix_ln, ix_rn, ix_tn, list_l, list_t, few0, few1, few2, few3, few5, lt_n, gt_n, le_n, eqF_n, neF_n, rng1_m, flT_nx, flT_rt, flF_nx, flE_rt, un2_t, un3_t, tru_l, tru_b, app_n, cap_n, flat_n, flat_bl, optI_n, sl_n, zero_add_, hp, flV_nx, ce, Bool.not_true, bN_f]
                    rfl
                  · have hp : heardP ws nm (i + 3 + L) = .error (i + 3 + L) := by
                      unfold heardP
                      refine if_neg fun x => ?_
                      rw [al] at x
                      rcases List.mem_cons.mp x with x | x
                      · exact y x
                      · exact z (List.mem_singleton.mp x)
                    rw [decide_eq_false z] at ce
                    simp -implicitDefEqProofs only [Option.bind_some, Option.map_some, if_true_, if_ff, if_T, if_F, on0_s, on1_s, on2_s, on3_s, on4_s, on5_s, on6_s, asL_l, asL_r, asT_t, asB_b, len_l, len_r, len_t, l_0, l_1, l_2, l_3, l_4, l_5, l_6, l_7, l_8, l_9, l_10, l_11, l_12, l_13, l_14, l_15, l_20, l_21, l_22, l_25, l_26, l_30, l_31, l_32, l_36, l_38, l_40, l_60, l_64, l_70, l_96, l_97, l_100, l_128, l_512, l_7919, int_n, int_i, int_bn, add_n, ix_ln, ix_rn, ix_tn, list_l, list_t, few0, few1, few2, few3, few5, lt_n, gt_n, le_n, eqF_n, neF_n, rng1_m, flT_nx, flT_rt, flF_nx, flE_rt, un2_t, un3_t, tru_l, tru_b, app_n, cap_n, flat_n, flat_bl, optI_n, sl_n, zero_add_, hp, flV_nx, ce, Bool.not_false, vO_n]
                    rfl
          · rw [if_neg h2, decide_eq_false h2]; rfl
    · rw [decide_eq_true (show ws.length ≤ i + 1 by omega), gd_nil l1, nmB_nil]
      rfl
  · rw [if_neg h0, decide_eq_false h0]
    simp -implicitDefEqProofs only [Option.bind_some, Option.map_some, if_true_, if_ff, if_T, if_F, on0_s, on1_s, on2_s, on3_s, on4_s, on5_s, on6_s, asL_l, asL_r, asT_t, asB_b, len_l, len_r, len_t, l_0, l_1, l_2, l_3, l_4, l_5, l_6, l_7, l_8, l_9, l_10, l_11, l_12, l_13, l_14, l_15, l_20, l_21, l_22, l_25, l_26, l_30, l_31, l_32, l_36, l_38, l_40, l_60, l_64, l_70, l_96, l_97, l_100, l_128, l_512, l_7919, int_n, int_i, int_bn, add_n, ix_ln, ix_rn, ix_tn, list_l, list_t, few0, few1, few2, few3, few5, lt_n, gt_n, le_n, eqF_n, neF_n, rng1_m, flT_nx, flT_rt, flF_nx, flE_rt, un2_t, un3_t, tru_l, tru_b, app_n, cap_n, flat_n, flat_bl, optI_n, sl_n, zero_add_, Bool.not_false, few3, vO_n]
    rfl
end
end Oh
namespace Oh
open PySem L2 TL
noncomputable abbrev HS := List (List Nat) × List (List (List Nat)) × List (List Nat)
noncomputable def hD (S : HS) : D := .tup [ssD S.1, sssD S.2.1, dll S.2.2]
noncomputable def addS (S : HS) (v : VarT) : HS := (S.1 ++ [v.1], S.2.1 ++ [v.2.1], S.2.2 ++ [v.2.2.1])
noncomputable def stepR (ws : List (List Nat)) (k : Nat) (S : HS) (p : Nat) : Except Nat (HS × Nat) :=
  if k = 0 ∨ ws.getD p [] ≠ Wd "end" then (match varL ws S.1 p with | .error e => .error e | .ok v => .ok (addS S v, v.2.2.2)) else .ok (S, p)
noncomputable def loopR (ws : List (List Nat)) : Nat → Nat → HS → Nat → Except Nat (HS × Nat)
  | 0, _, S, p => .ok (S, p)
  | m + 1, k, S, p => match stepR ws k S p with | .error e => .error e | .ok r => loopR ws m (k + 1) r.1 r.2
noncomputable def finR (ws : List (List Nat)) (p : Nat) : Except Nat Unit := if ws.getD p [] = Wd "end" then (if ws.length = p + 1 then .ok () else .error (p + 1)) else .error p
noncomputable def houseR (ws : List (List Nat)) : Except Nat HS :=
  if ws.getD 0 [] = Wd "house" then (match loopR ws 5 0 ([], [], []) 1 with
    | .error e => .error e
    | .ok r => (match finR ws r.2 with | .error e => .error e | .ok _ => .ok r.1)) else .error 0
/-- what is read is a house as far as it goes -/
structure HI (S : HS) : Prop where
  wdl : S.2.1.length = S.1.length
  hsl : S.2.2.length = S.1.length
  nd : S.1.Nodup
  nok : ∀ s ∈ S.1, NameOk s
  wok : ∀ w ∈ S.2.1, w.Nodup ∧ (∀ s ∈ w, NameOk s) ∧ 2 ≤ w.length ∧ w.length ≤ 3
  asc : ∀ h ∈ S.2.2, h.Pairwise (· < ·)
  lt : ∀ v u, u ∈ hv S.2.2 v → u < v
theorem HI.ne {S : HS} (h : HI S) : [] ∉ S.1 := fun z => (h.nok _ z).ne rfl
theorem HI.ke {S : HS} (h : HI S) {w : List Nat} (hw : w ∈ kept) : w ∉ S.1 := fun z => (h.nok _ z).nk hw
theorem HI.start : HI ([], [], []) := ⟨rfl, rfl, .nil, fun _ h => (nomatch h), fun _ h => (nomatch h), fun _ h => (nomatch h), fun v u h => by
  have : hv [] v = [] := by unfold hv; cases v <;> rfl
  rw [this] at h; cases h⟩
theorem newB_ok {us : List (List Nat)} {w : List Nat} (h : newB us w = true) : NameOk w ∧ w ∉ us := by
  unfold newB at h
  rw [Bool.and_eq_true] at h
  exact ⟨nmB_iff.mp h.1, by simpa using h.2⟩
theorem own_good (ws : List (List Nat)) (j : Nat) : (ownS ws j).Nodup ∧ ∀ s ∈ ownS ws j, NameOk s := by
  unfold ownS
  by_cases h0 : newB [] (ws.getD j []) = true
  · rw [if_pos h0]
    obtain ⟨a0, _⟩ := newB_ok h0
    by_cases h1 : newB [ws.getD j []] (ws.getD (j + 1) []) = true
    · rw [if_pos h1]
      obtain ⟨a1, b1⟩ := newB_ok h1
      have n1 : ¬ ws.getD (j + 1) [] = ws.getD j [] := fun z => b1 (List.mem_singleton.mpr z)
      by_cases h2 : newB [ws.getD j [], ws.getD (j + 1) []] (ws.getD (j + 2) []) = true
      · rw [if_pos h2]
        obtain ⟨a2, b2⟩ := newB_ok h2
        have n2 : ¬ ws.getD (j + 2) [] = ws.getD j [] := fun z => b2 (by rw [z]; exact List.mem_cons_self)
        have n3 : ¬ ws.getD (j + 2) [] = ws.getD (j + 1) [] := fun z => b2 (by rw [z]; exact List.mem_cons_of_mem _ List.mem_cons_self)
        refine ⟨?_, fun s hs => ?_⟩
        · refine List.nodup_cons.mpr ⟨fun z => ?_, List.nodup_cons.mpr ⟨fun z => ?_, List.nodup_cons.mpr ⟨fun z => (nomatch z), .nil⟩⟩⟩
          · rcases List.mem_cons.mp z with z | z
            · exact n1 z.symm
            · exact n2 (List.mem_singleton.mp z).symm
          · exact n3 (List.mem_singleton.mp z).symm
        · rcases List.mem_cons.mp hs with rfl | hs
          · exact a0
          · rcases List.mem_cons.mp hs with rfl | hs
            · exact a1
            · rw [List.mem_singleton.mp hs]; exact a2
      · rw [if_neg h2]
        refine ⟨List.nodup_cons.mpr ⟨fun z => n1 (List.mem_singleton.mp z).symm, List.nodup_cons.mpr ⟨fun z => (nomatch z), .nil⟩⟩, fun s hs => ?_⟩
        rcases List.mem_cons.mp hs with rfl | hs
        · exact a0
        · rw [List.mem_singleton.mp hs]; exact a1
    · rw [if_neg h1]
      exact ⟨List.nodup_cons.mpr ⟨fun z => (nomatch z), .nil⟩, fun s hs => by rw [List.mem_singleton.mp hs]; exact a0⟩
  · rw [if_neg h0]
    exact ⟨.nil, fun s hs => nomatch hs⟩
section
variable {ws : List (List Nat)} {i : Nat}
theorem heard_good {nm : List (List Nat)} {p : Nat} {q : List Nat × Nat} (e : heardP ws nm p = .ok q) : q.1.Pairwise (· < ·) ∧ (∀ u ∈ q.1, u < nm.length) ∧ q.2 ≤ ws.length ∧ q.1.length ≤ nm.length := by
  have kend : ∀ {n : Nat}, ws.getD n [] = Wd "end" → n + 1 ≤ ws.length := fun {n} h => gd_lt (by rw [h]; decide +kernel)
  unfold heardP at e
  split at e
  · split at e
    · rename_i h
      cases e
      exact ⟨.nil, fun _ h => (nomatch h), kend h, Nat.zero_le _⟩
    · split at e
      · cases e
      · split at e
        · rename_i h
          cases e
          obtain ⟨h1, h2⟩ := hear_asc (ws := ws) (nm := nm) nm.length 0 (p + 1)
          exact ⟨h1, fun u hu => (h2 u hu).2, kend h, hear_len _ _ _⟩
        · cases e
  · cases e
theorem own_of {j : Nat} {p : List (List Nat) × Nat} (e : ownP ws j = .ok p) : p.1 = ownS ws j ∧ 2 ≤ p.1.length := by
  rcases own_both ws j with ⟨a, b⟩ | ⟨_, b⟩ | ⟨_, _, b⟩
  · rw [b] at e; cases e; exact ⟨rfl, a⟩
  · rw [b] at e; cases e
  · rw [b] at e; cases e
theorem var_inv {S : HS} (h : HI S) {p : Nat} {v : VarT} (e : varL ws S.1 p = .ok v) : HI (addS S v) ∧ v.2.2.2 ≤ ws.length := by
  unfold varL at e
  split at e
  · unfold varP at e
    split at e
    · rename_i hn
      obtain ⟨a0, b0⟩ := newB_ok hn
      split at e
      · split at e
        · cases e
        · rename_i o eo
          split at e
          · cases e
          · rename_i q eq
            cases e
            obtain ⟨c1, c2⟩ := own_of eo
            obtain ⟨d1, d2, d3, _⟩ := heard_good eq
            have og := own_good ws (p + 3)
            refine ⟨⟨?_, ?_, ?_, ?_, ?_, ?_, ?_⟩, d3⟩
            · show (S.2.1 ++ [_]).length = (S.1 ++ [_]).length
              rw [List.length_append, List.length_append, h.wdl]; rfl
            · show (S.2.2 ++ [_]).length = (S.1 ++ [_]).length
              rw [List.length_append, List.length_append, h.hsl]; rfl
            · exact List.nodup_append.mpr ⟨h.nd, List.nodup_cons.mpr ⟨fun z => (nomatch z), .nil⟩, fun a ha b hb z => b0 (by have hb : b = ws.getD (p + 1) [] := List.mem_singleton.mp hb; rw [← hb, ← z]; exact ha)⟩
            · intro s hs
              rcases List.mem_append.mp hs with z | z
              · exact h.nok s z
              · rw [List.mem_singleton.mp z]; exact a0
            · intro w hw
              rcases List.mem_append.mp hw with z | z
              · exact h.wok w z
              · rw [List.mem_singleton.mp z]
                dsimp only
                rw [c1]
                exact ⟨og.1, og.2, by rw [← c1]; exact c2, own_len ws (p + 3)⟩
            · intro w hw
              rcases List.mem_append.mp hw with z | z
              · exact h.asc w z
              · rw [List.mem_singleton.mp z]; exact d1
            · intro n u hu
              have hu : u ∈ (S.2.2 ++ [q.1]).getD n [] := hu
              rw [List.getD_eq_getElem?_getD] at hu
              by_cases z : n < S.2.2.length
              · rw [List.getElem?_append_left z] at hu
                exact h.lt n u (by unfold hv; rw [List.getD_eq_getElem?_getD]; exact hu)
              · rw [List.getElem?_append_right (by omega)] at hu
                by_cases y : n = S.2.2.length
                · rw [y, Nat.sub_self] at hu
                  have := d2 u hu
                  rw [y, h.hsl]; exact this
                · rw [List.getElem?_eq_none (by show 1 ≤ _; omega)] at hu
                  cases hu
      · cases e
    · cases e
  · cases e
theorem step_inv {S : HS} (h : HI S) {k p : Nat} {r : HS × Nat} (hp : p ≤ ws.length) (e : stepR ws k S p = .ok r) : HI r.1 ∧ r.2 ≤ ws.length ∧ r.1.1.length ≤ S.1.length + 1 := by
  unfold stepR at e
  split at e
  · split at e
    · cases e
    · rename_i v ev
      cases e
      obtain ⟨h1, h2⟩ := var_inv h ev
      exact ⟨h1, h2, by show (S.1 ++ [_]).length ≤ _; rw [List.length_append]; exact Nat.le_refl _⟩
  · cases e
    exact ⟨h, hp, Nat.le_succ _⟩
theorem loop_inv : ∀ (m k : Nat) {S : HS} {p : Nat} {r : HS × Nat}, HI S → p ≤ ws.length → loopR ws m k S p = .ok r → HI r.1 ∧ r.2 ≤ ws.length ∧ r.1.1.length ≤ S.1.length + m
  | 0, _, _, _, _, h, hp, e => by cases e; exact ⟨h, hp, Nat.le_refl _⟩
  | m + 1, k, S, p, r, h, hp, e => by
    unfold loopR at e
    split at e
    · cases e
    · rename_i r0 e0
      obtain ⟨h1, h2, h3⟩ := step_inv h hp e0
      obtain ⟨h4, h5, h6⟩ := loop_inv m (k + 1) h1 h2 e
      exact ⟨h4, h5, by omega⟩
/-! the law's reader of a house -/
theorem floV (r : Except Nat VarT) : floT (shLv (varD r)) (varD r) = true := by
  cases r with
  | error k => rfl
  | ok v =>
    have : floT (shLv (varD (.ok v))) (varD (.ok v)) = (true && ((true && ((v.2.1.map sD).all flatB && ((dns v.2.2.1).all flatB && true))) && (true && true))) := rfl
    rw [this, allfl_s, allfl_n]; rfl
theorem tap0 {a : List (List Nat)} {b c : D} {y : D} (h : a.length ≤ 1000) : tapD (.t fun _ => .l .v) (.tup [ssD a, b, c]) (dn 0) y = some (.tup [.lst (a.map sD ++ [y]), b, c]) := by
  show (if (0 : Int) ≤ 0 then (if (a.map sD).length < 100000 then some (D.tup [.lst (a.map sD ++ [y]), b, c]) else none) else none) = _
  rw [if_pos (Int.le_refl _), if_pos (by rw [List.length_map]; omega)]
theorem tap1 {a : List (List (List Nat))} {b c : D} {y : D} (h : a.length ≤ 1000) : tapD (.t fun _ => .l .v) (.tup [b, sssD a, c]) (dn 1) y = some (.tup [b, .lst (a.map ssD ++ [y]), c]) := by
  show (if (0 : Int) ≤ 1 then (if (a.map ssD).length < 100000 then some (D.tup [b, .lst (a.map ssD ++ [y]), c]) else none) else none) = _
  rw [if_pos (by decide), if_pos (by rw [List.length_map]; omega)]
theorem tap2 {a : List (List Nat)} {b c : D} {y : D} (h : a.length ≤ 1000) : tapD (.t fun _ => .l .v) (.tup [b, c, dll a]) (dn 2) y = some (.tup [b, c, .lst (a.map dl ++ [y])]) := by
  show (if (0 : Int) ≤ 2 then (if (a.map dl).length < 100000 then some (D.tup [b, c, .lst (a.map dl ++ [y])]) else none) else none) = _
  rw [if_pos (by decide), if_pos (by rw [List.length_map]; omega)]
theorem addD {S : HS} {v : VarT} : D.tup [.lst (S.1.map sD ++ [sD v.1]), .lst (S.2.1.map ssD ++ [ssD v.2.1]), .lst (S.2.2.map dl ++ [dl v.2.2.1])] = hD (addS S v) := by
  unfold hD addS
  show _ = D.tup [.lst ((S.1 ++ [v.1]).map sD), .lst ((S.2.1 ++ [v.2.1]).map ssD), .lst ((S.2.2 ++ [v.2.2.1]).map dl)]
  rw [List.map_append, List.map_append, List.map_append]; rfl
noncomputable def flR (r : Except Nat (HS × Nat)) (f : Fl (D × D) Empty) : Prop := match r with | .ok a => f = .nx (hD a.1, dn a.2) | .error e => ∃ x, f = .rt (.tup [dn e, x])
noncomputable def flR2 (r : Except Nat (HS × Nat)) (f : Fl (D × D) (D × D)) : Prop := match r with | .ok a => f = .nx (hD a.1, dn a.2) | .error e => ∃ x, f = .rt (.tup [dn e, x])
theorem lread_for {K : D → D × D → Option (Fl (D × D) (D × D))} (hK : ∀ k S p, k < 5 → S.1.length ≤ k → p ≤ ws.length → HI S → ∃ f, K (dn k) (hD S, dn p) = some f ∧ flR2 (stepR ws k S p) f) :
    ∀ (m k : Nat) (S : HS) (p : Nat), k + m = 5 → S.1.length ≤ k → p ≤ ws.length → HI S → ∃ f, forF (γ := Empty) K (dns (List.range' k m)) (hD S, dn p) = some f ∧ flR (loopR ws m k S p) f
  | 0, k, S, p, _, _, _, _ => ⟨_, rfl, rfl⟩
  | m + 1, k, S, p, e, hl, hp, h => by
    rw [List.range'_succ]
    obtain ⟨f, e1, r1⟩ := hK k S p (by omega) hl hp h
    show ∃ f', (K (dn k) (hD S, dn p)).bind _ = some f' ∧ _
    rw [e1]
    unfold loopR
    cases es : stepR ws k S p with
    | error x =>
      rw [es] at r1
      obtain ⟨y, rfl⟩ := r1
      exact ⟨_, rfl, y, rfl⟩
    | ok a =>
      rw [es] at r1
      have r1 : f = .nx (hD a.1, dn a.2) := r1
      subst r1
      obtain ⟨i1, i2, i3⟩ := step_inv h hp es
      exact lread_for hK m (k + 1) a.1 a.2 (by omega) (by omega) i2 i1
noncomputable def rdR (r : Except Nat HS) (d : D) : Prop := match r with | .ok S => d = .tup [.int (-1), hD S] | .error e => ∃ x, d = .tup [dn e, x]
theorem lread_end {K : D → D × D → Option (Fl (D × D) (D × D))} {g : D × D → Option D} (l0 : 1 ≤ ws.length) (hK : ∀ k S p, k < 5 → S.1.length ≤ k → p ≤ ws.length → HI S → ∃ f, K (dn k) (hD S, dn p) = some f ∧ flR2 (stepR ws k S p) f)
    (hg : ∀ S p, HI S → p ≤ ws.length → ∃ d, g (hD S, dn p) = some d ∧ rdR (match finR ws p with | .error e => .error e | .ok _ => .ok S) d) :
    ∃ d, (forF (γ := Empty) K (dns (List.range' 0 5)) (D.tup [D.lst [], D.lst [], D.lst []], dn 1)).bind (flT g) = some d ∧ rdR (match loopR ws 5 0 ([], [], []) 1 with | .error e => .error e | .ok r => (match finR ws r.2 with | .error e => .error e | .ok _ => .ok r.1)) d := by
  obtain ⟨f, e1, r1⟩ := lread_for (ws := ws) hK 5 0 ([], [], []) 1 rfl (Nat.le_refl _) l0 HI.start
  have e1 : forF (γ := Empty) K (dns (List.range' 0 5)) (D.tup [D.lst [], D.lst [], D.lst []], dn 1) = some f := e1
  rw [e1]
  cases el : loopR ws 5 0 ([], [], []) 1 with
  | error x =>
    rw [el] at r1
    obtain ⟨y, rfl⟩ := r1
    exact ⟨_, rfl, y, rfl⟩
  | ok a =>
    rw [el] at r1
    have r1 : f = .nx (hD a.1, dn a.2) := r1
    subst r1
    obtain ⟨i1, i2, _⟩ := loop_inv 5 0 HI.start l0 el
    exact hg a.1 a.2 i1 i2
theorem lread_ok (lw : ∀ s ∈ ws, WOk s) (hw : ws.length ≤ 900) : ∃ d, m_law_read (ssD ws) = some d ∧ rdR (houseR ws) d := by
  unfold m_law_read r_law_read houseR
  have c0 := cut_p (i := 0) (b := 0 + 1) lw (s := "house") (by decide +kernel) (by decide +kernel) rfl
  have ct : cutD (ws.map sD) none (some ((1 : Nat) : Int)) = cutD (ws.map sD) (some ((0 : Nat) : Int)) (some ((0 + 1 : Nat) : Int)) := by
    rw [cutD_to, cut_one]; rfl
  simp -implicitDefEqProofs only [Option.bind_some, Option.map_some, if_true_, if_ff, if_T, if_F, on0_s, on1_s, on2_s, on3_s, on4_s, on5_s, on6_s, asL_l, asL_r, asT_t, asB_b, len_l, len_r, len_t, l_0, l_1, l_2, l_3, l_4, l_5, l_6, l_7, l_8, l_9, l_10, l_11, l_12, l_13, l_14, l_15, l_20, l_21, l_22, l_25, l_26, l_30, l_31, l_32, l_36, l_38, l_40, l_60, l_64, l_70, l_96, l_97, l_100, l_128, l_512, l_7919, int_n, int_i, int_bn, add_n, ix_ln, ix_rn, ix_tn, list_l, list_t, few0, few1, few2, few3, few5, lt_n, gt_n, le_n, eqF_n, neF_n, rng1_m, flT_nx, flT_rt, flF_nx, flE_rt, un2_t, un3_t, tru_l, tru_b, app_n, cap_n, flat_n, flat_bl, optI_n, sl_n, zero_add_, ct, c0, rng_s (n := 5) (by decide)]
  by_cases h0 : ws.getD 0 [] = Wd "house"
  · rw [if_pos h0, decide_eq_true h0]
    simp -implicitDefEqProofs only [Option.bind_some, Option.map_some, if_true_, if_ff, if_T, if_F, on0_s, on1_s, on2_s, on3_s, on4_s, on5_s, on6_s, asL_l, asL_r, asT_t, asB_b, len_l, len_r, len_t, l_0, l_1, l_2, l_3, l_4, l_5, l_6, l_7, l_8, l_9, l_10, l_11, l_12, l_13, l_14, l_15, l_20, l_21, l_22, l_25, l_26, l_30, l_31, l_32, l_36, l_38, l_40, l_60, l_64, l_70, l_96, l_97, l_100, l_128, l_512, l_7919, int_n, int_i, int_bn, add_n, ix_ln, ix_rn, ix_tn, list_l, list_t, few0, few1, few2, few3, few5, lt_n, gt_n, le_n, eqF_n, neF_n, rng1_m, flT_nx, flT_rt, flF_nx, flE_rt, un2_t, un3_t, tru_l, tru_b, app_n, cap_n, flat_n, flat_bl, optI_n, sl_n, zero_add_, Bool.not_true]
    have l0 : 1 ≤ ws.length := gd_lt (by rw [h0]; decide +kernel)
    rw [List.range_eq_range']
    refine lread_end l0 (fun k S p hk hl hp h => ?_) (fun S p h hp => ?_)
    · have ce := cut_p (i := p) (b := p + 1) lw (s := "end") (by decide +kernel) (by decide +kernel) rfl
      have lv := lvar_ok (i := p) lw h.ne (by omega) hp hw
      have fv := floV (varL ws S.1 p)
      have x0 : dIx (hD S) (dn 0) = some (ssD S.1) := rfl
      unfold stepR
      simp -implicitDefEqProofs only [Option.bind_some, Option.map_some, if_true_, if_ff, if_T, if_F, on0_s, on1_s, on2_s, on3_s, on4_s, on5_s, on6_s, asL_l, asL_r, asT_t, asB_b, len_l, len_r, len_t, l_0, l_1, l_2, l_3, l_4, l_5, l_6, l_7, l_8, l_9, l_10, l_11, l_12, l_13, l_14, l_15, l_20, l_21, l_22, l_25, l_26, l_30, l_31, l_32, l_36, l_38, l_40, l_60, l_64, l_70, l_96, l_97, l_100, l_128, l_512, l_7919, int_n, int_i, int_bn, add_n, ix_ln, ix_rn, ix_tn, list_l, list_t, few0, few1, few2, few3, few5, lt_n, gt_n, le_n, eqF_n, neF_n, rng1_m, flT_nx, flT_rt, flF_nx, flE_rt, un2_t, un3_t, tru_l, tru_b, app_n, cap_n, flat_n, flat_bl, optI_n, sl_n, zero_add_, ce, x0, lv, fv, rng_s (n := 3) (by decide)]
      have main : ∃ f, ((dUn3 (varD (varL ws S.1 p))).bind fun r => ((dGe r.1 (dn 0)).bind asB).bind fun c_3 => if c_3 = true then some (Fl.rt (D.tup [r.1, hD S])) else ((forS (fun x h => ((dIx r.2.1 x).bind fun y => tapD (.t fun _ => .l .v) h x y).bind fun h1 => some h1) (dns (List.range 3)) (hD S)).bind fun h1 => some (Fl.nx (h1, r.2.2)))) = some f ∧ flR2 (match varL ws S.1 p with | .error e => .error e | .ok v => .ok (addS S v, v.2.2.2)) f := by
        cases varL ws S.1 p with
        | error e =>
          have g0 : dGe (dn e) (dn 0) = some (.bl true) := by rw [ge_n]; exact congrArg (fun b => some (D.bl b)) (decide_eq_true (Nat.zero_le _))
          refine ⟨.rt (.tup [dn e, hD S]), ?_, _, rfl⟩
          have u : dUn3 (varD (.error e)) = some (dn e, .non, dn 0) := rfl
          simp -implicitDefEqProofs only [Option.bind_some, Option.map_some, if_true_, if_ff, if_T, if_F, on0_s, on1_s, on2_s, on3_s, on4_s, on5_s, on6_s, asL_l, asL_r, asT_t, asB_b, len_l, len_r, len_t, l_0, l_1, l_2, l_3, l_4, l_5, l_6, l_7, l_8, l_9, l_10, l_11, l_12, l_13, l_14, l_15, l_20, l_21, l_22, l_25, l_26, l_30, l_31, l_32, l_36, l_38, l_40, l_60, l_64, l_70, l_96, l_97, l_100, l_128, l_512, l_7919, int_n, int_i, int_bn, add_n, ix_ln, ix_rn, ix_tn, list_l, list_t, few0, few1, few2, few3, few5, lt_n, gt_n, le_n, eqF_n, neF_n, rng1_m, flT_nx, flT_rt, flF_nx, flE_rt, un2_t, un3_t, tru_l, tru_b, app_n, cap_n, flat_n, flat_bl, optI_n, sl_n, zero_add_, u, g0]
        | ok v =>
          have wl := h.wdl
          have hl2 := h.hsl
          refine ⟨.nx (hD (addS S v), dn v.2.2.2), ?_, rfl⟩
          show (forS (fun x h => ((dIx (.tup [sD v.1, ssD v.2.1, dl v.2.2.1]) x).bind fun y => tapD (.t fun _ => .l .v) h x y).bind fun h1 => some h1) [dn 0, dn 1, dn 2] (hD S)).bind _ = _
          have e0 := tap0 (a := S.1) (b := sssD S.2.1) (c := dll S.2.2) (y := sD v.1) (by omega)
          have e1 := tap1 (a := S.2.1) (b := .lst (S.1.map sD ++ [sD v.1])) (c := dll S.2.2) (y := ssD v.2.1) (by omega)
          have e2 := tap2 (a := S.2.2) (b := .lst (S.1.map sD ++ [sD v.1])) (c := .lst (S.2.1.map ssD ++ [ssD v.2.1])) (y := dl v.2.2.1) (by omega)
          have ef : forS (fun x h => ((dIx (.tup [sD v.1, ssD v.2.1, dl v.2.2.1]) x).bind fun y => tapD (.t fun _ => .l .v) h x y).bind fun h1 => some h1) [dn 0, dn 1, dn 2] (hD S) = some (hD (addS S v)) := by
            show ((tapD (.t fun _ => .l .v) (hD S) (dn 0) (sD v.1)).bind fun h => some h).bind (fun h => ((tapD (.t fun _ => .l .v) h (dn 1) (ssD v.2.1)).bind fun h => some h).bind fun h => ((tapD (.t fun _ => .l .v) h (dn 2) (dl v.2.2.1)).bind fun h => some h).bind fun h => some h) = _
            have e0 : tapD (.t fun _ => .l .v) (hD S) (dn 0) (sD v.1) = _ := e0
            rw [e0, Option.bind_some, Option.bind_some, e1, Option.bind_some, Option.bind_some, e2, Option.bind_some, Option.bind_some, addD]
          rw [ef]; rfl
      by_cases hc : k = 0 ∨ ws.getD p [] ≠ Wd "end"
      · have et : (if decide (k = 0) = true then some true else some (!decide (ws.getD p [] = Wd "end"))) = some true := by
          by_cases z : k = 0
          · rw [decide_eq_true z]; rfl
          · rw [decide_eq_false z, decide_eq_false (hc.resolve_left z)]; rfl
        rw [et, if_pos hc]
        obtain ⟨f, e1, r1⟩ := main
        rw [Option.bind_some, if_pos (rfl : true = true), e1]
        cases ev : varL ws S.1 p with
        | error e =>
          rw [ev] at r1
          obtain ⟨y, rfl⟩ := r1
          exact ⟨_, rfl, y, rfl⟩
        | ok v =>
          rw [ev] at r1
          have r1 : f = .nx (hD (addS S v), dn v.2.2.2) := r1
          subst r1
          exact ⟨_, rfl, rfl⟩
      · have hc1 : ¬ k = 0 := fun z => hc (.inl z)
        have hc2 : ws.getD p [] = Wd "end" := Classical.byContradiction fun z => hc (.inr z)
        rw [if_neg hc, decide_eq_false hc1, decide_eq_true hc2]
        exact ⟨_, rfl, rfl⟩
    · have ce := cut_p (i := p) (b := p + 1) lw (s := "end") (by decide +kernel) (by decide +kernel) rfl
      unfold finR
      simp -implicitDefEqProofs only [Option.bind_some, Option.map_some, if_true_, if_ff, if_T, if_F, on0_s, on1_s, on2_s, on3_s, on4_s, on5_s, on6_s, asL_l, asL_r, asT_t, asB_b, len_l, len_r, len_t, l_0, l_1, l_2, l_3, l_4, l_5, l_6, l_7, l_8, l_9, l_10, l_11, l_12, l_13, l_14, l_15, l_20, l_21, l_22, l_25, l_26, l_30, l_31, l_32, l_36, l_38, l_40, l_60, l_64, l_70, l_96, l_97, l_100, l_128, l_512, l_7919, int_n, int_i, int_bn, add_n, ix_ln, ix_rn, ix_tn, list_l, list_t, few0, few1, few2, few3, few5, lt_n, gt_n, le_n, eqF_n, neF_n, rng1_m, flT_nx, flT_rt, flF_nx, flE_rt, un2_t, un3_t, tru_l, tru_b, app_n, cap_n, flat_n, flat_bl, optI_n, sl_n, zero_add_, ce, List.length_map, neg1]
      by_cases z : ws.getD p [] = Wd "end"
      · have l1 : p < ws.length := gd_lt (by rw [z]; decide +kernel)
        rw [if_pos z, decide_eq_true z]
        simp -implicitDefEqProofs only [Option.bind_some, Option.map_some, if_true_, if_ff, if_T, if_F, on0_s, on1_s, on2_s, on3_s, on4_s, on5_s, on6_s, asL_l, asL_r, asT_t, asB_b, len_l, len_r, len_t, l_0, l_1, l_2, l_3, l_4, l_5, l_6, l_7, l_8, l_9, l_10, l_11, l_12, l_13, l_14, l_15, l_20, l_21, l_22, l_25, l_26, l_30, l_31, l_32, l_36, l_38, l_40, l_60, l_64, l_70, l_96, l_97, l_100, l_128, l_512, l_7919, int_n, int_i, int_bn, add_n, ix_ln, ix_rn, ix_tn, list_l, list_t, few0, few1, few2, few3, few5, lt_n, gt_n, le_n, eqF_n, neF_n, rng1_m, flT_nx, flT_rt, flF_nx, flE_rt, un2_t, un3_t, tru_l, tru_b, app_n, cap_n, flat_n, flat_bl, optI_n, sl_n, zero_add_, Bool.not_true]
        by_cases y : ws.length = p + 1
        · rw [if_pos y, decide_eq_false (show ¬ p + 1 < ws.length by omega)]
          exact ⟨_, rfl, rfl⟩
        · rw [if_neg y, decide_eq_true (show p + 1 < ws.length by omega)]
          exact ⟨_, rfl, _, rfl⟩
      · rw [if_neg z, decide_eq_false z]
        exact ⟨_, rfl, _, rfl⟩
  · rw [if_neg h0, decide_eq_false h0]
    exact ⟨_, rfl, _, rfl⟩
end
end Oh
namespace Oh
open PySem L2 TL
section
variable {ws : List (List Nat)} {i : Nat}
noncomputable abbrev St4 := D × D × D × D
noncomputable def stD (ws : List (List Nat)) (p : Nat) (S : HS) : St4 := (rdV ws p, ssD S.1, sssD S.2.1, dll S.2.2)
theorem loop_stop : ∀ (m k : Nat) {S : HS} {p : Nat}, 0 < k → ws.getD p [] = Wd "end" → loopR ws m k S p = .ok (S, p)
  | 0, _, _, _, _, _ => rfl
  | m + 1, k, S, p, hk, h => by
    have e : stepR ws k S p = .ok (S, p) := if_neg fun z => z.elim (fun y => by omega) fun y => y h
    unfold loopR
    rw [e]
    exact loop_stop m (k + 1) (Nat.succ_pos k) h
noncomputable def endE (ws : List (List Nat)) (r : Except Nat (HS × Nat)) : Rs St4 := match r with
  | .error e => some (.error (.fl 2 e))
  | .ok a => if ws.getD a.2 [] = Wd "end" then some (.ok (stD ws (a.2 + 1) a.1)) else some (.error (.fl 2 (a.2 : Nat)))
theorem ph_loop {c : St4 → Rs (Bool × St4)} {k : St4 → Rs St4}
    (hc : ∀ S p, p ≤ ws.length → c (stD ws p S) = if ws.getD p [] ∈ alv S.1.length then some (.ok (decide (ws.getD p [] = Wd "variable"), stD ws (p + 1) S)) else some (.error (.fl 2 p)))
    (hk : ∀ S p, HI S → S.1.length ≤ 4 → p + 1 ≤ ws.length → k (stD ws (p + 1) S) = toE (varP ws S.1 p) (fun v => stD ws v.2.2.2 (addS S v))) :
    ∀ (m : Nat) (S : HS) (p fuel : Nat), S.1.length + m = 5 → m < fuel → p ≤ ws.length → HI S → whE c k fuel (stD ws p S) = endE ws (loopR ws m S.1.length S p)
  | m, S, p, 0, _, hf, _, _ => absurd hf (Nat.not_lt_zero _)
  | 0, S, p, fuel + 1, e, hf, hp, h => by
    have e : S.1.length = 5 := e
    show thenR (c (stD ws p S)) _ = endE ws (.ok (S, p))
    rw [hc S p hp]
    have al : alv S.1.length = [Wd "end"] := by rw [e]; rfl
    rw [al]
    unfold endE
    dsimp only
    by_cases z : ws.getD p [] = Wd "end"
    · rw [if_pos (by rw [z]; exact List.mem_cons_self), if_pos z, then_ok, decide_eq_false (by rw [z]; decide +kernel)]; rfl
    · rw [if_neg (fun y => z (List.mem_singleton.mp y)), if_neg z]; rfl
  | m + 1, S, p, fuel + 1, e, hf, hp, h => by
    have e5 : S.1.length < 5 := by omega
    show thenR (c (stD ws p S)) _ = _
    rw [hc S p hp]
    by_cases zv : ws.getD p [] = Wd "variable"
    · have hne : ws.getD p [] ≠ Wd "end" := by rw [zv]; decide +kernel
      have hl : p < ws.length := gd_lt (by rw [zv]; decide +kernel)
      have hm : ws.getD p [] ∈ alv S.1.length := by
        rw [zv]; unfold alv
        split
        · exact List.mem_cons_self
        · first | exact List.mem_cons_self | (rw [if_pos e5]; exact List.mem_cons_self)
      rw [if_pos hm, then_ok, decide_eq_true zv]
      show thenR (k (stD ws (p + 1) S)) _ = _
      rw [hk S p h (by omega) hl]
      have es : stepR ws S.1.length S p = (match varP ws S.1 p with | .error e => .error e | .ok v => .ok (addS S v, v.2.2.2)) := by
        unfold stepR
        rw [if_pos (.inr hne)]
        unfold varL
        rw [if_pos zv]
        all_goals (cases varP ws S.1 p <;> rfl)
      unfold loopR
      rw [es]
      cases ev : varP ws S.1 p with
      | error x => rfl
      | ok v =>
        have ev2 : varL ws S.1 p = .ok v := by unfold varL; rw [if_pos zv]; exact ev
        obtain ⟨i1, i2⟩ := var_inv h ev2
        have il : (addS S v).1.length = S.1.length + 1 := by show (S.1 ++ [_]).length = _; rw [List.length_append]; rfl
        show whE c k fuel (stD ws v.2.2.2 (addS S v)) = endE ws (loopR ws m (S.1.length + 1) (addS S v) v.2.2.2)
        rw [← il]
        exact ph_loop hc hk m (addS S v) v.2.2.2 fuel (by omega) (by omega) i2 i1
    · by_cases z0 : S.1.length = 0
      · have al : alv S.1.length = [Wd "variable"] := by rw [z0]; rfl
        have es : stepR ws S.1.length S p = .error p := by
          unfold stepR
          rw [if_pos (.inl z0)]
          unfold varL
          rw [if_neg zv]
        rw [al, if_neg (fun y => zv (List.mem_singleton.mp y))]
        unfold loopR
        rw [es]; rfl
      · have al : alv S.1.length = [Wd "variable", Wd "end"] := by unfold alv; rw [if_neg z0, if_pos e5]
        by_cases ze : ws.getD p [] = Wd "end"
        · rw [loop_stop (m + 1) S.1.length (by omega) ze, al, if_pos (by rw [ze]; exact List.mem_cons_of_mem _ List.mem_cons_self), then_ok, decide_eq_false zv]
          unfold endE
          dsimp only
          rw [if_pos ze]; rfl
        · have es : stepR ws S.1.length S p = .error p := by
            unfold stepR
            rw [if_pos (.inr ze)]
            unfold varL
            rw [if_neg zv]
          rw [al, if_neg (fun y => by
            rcases List.mem_cons.mp y with y | y
            · exact zv y
            · exact ze (List.mem_singleton.mp y))]
          unfold loopR
          rw [es]; rfl
noncomputable def cntS (S : HS) : List Nat := S.2.1.map (·.length)
theorem HI.house {S : HS} (h : HI S) (h1 : 1 ≤ S.1.length) (h5 : S.1.length ≤ 5) : HouseOk (cntS S) S.2.2 S.1 S.2.1 := by
  have cl : (cntS S).length = S.1.length := by unfold cntS; rw [List.length_map, h.wdl]
  refine ⟨⟨by rw [cl]; exact h.hsl, by omega, by omega, fun c hc => ?_, h.asc, h.lt⟩, ⟨cl.symm, h.nd, h.nok⟩, by rw [cl]; exact h.wdl, fun v hv1 => ?_⟩
  · obtain ⟨w, hw, rfl⟩ := List.mem_map.mp hc
    obtain ⟨_, _, a, b⟩ := h.wok w hw
    omega
  · have hvl : v < S.2.1.length := by rw [h.wdl, ← cl]; exact hv1
    have hm : S.2.1.getD v [] ∈ S.2.1 := by rw [List.getD_eq_getElem?_getD, List.getElem?_eq_getElem hvl]; exact List.getElem_mem _
    obtain ⟨a, b, _, _⟩ := h.wok _ hm
    refine ⟨?_, a, b⟩
    unfold ct cntS
    rw [List.getD_eq_getElem?_getD, List.getD_eq_getElem?_getD, List.getElem?_map]
    cases S.2.1[v]? <;> rfl
noncomputable def houseE (ws : List (List Nat)) : Rs D := match houseR ws with
  | .error e => some (.error (.fl 2 e))
  | .ok S => if 512 < wayN (cntS S) S.2.2 then some (.error (.pl 3)) else some (.ok (houseV S.1 S.2.1 S.2.2))
theorem apR_w {st : List (List (List Nat))} {w : List (List Nat)} {r : D} (h : st.length ≤ 1000) : apR (sssD st) (some (.ok (ssD w, r))) = some (.ok (sssD (st ++ [w]), (ssD w, r))) := by
  unfold apR
  rw [then_ok]
  show okR ((if (st.map ssD).length < 100000 then some (D.lst (st.map ssD ++ [ssD w])) else none).map _) = _
  rw [if_pos (by rw [List.length_map]; omega)]
  show some (Except.ok (D.lst (st.map ssD ++ [ssD w]), _)) = _
  rw [show st.map ssD ++ [ssD w] = (st ++ [w]).map ssD by rw [List.map_append]; rfl]
theorem apR_h {st : List (List Nat)} {w : List Nat} {r : D} (h : st.length ≤ 1000) : apR (dll st) (some (.ok (dl w, r))) = some (.ok (dll (st ++ [w]), (dl w, r))) := by
  unfold apR
  rw [then_ok]
  show okR ((if (st.map dl).length < 100000 then some (D.lst (st.map dl ++ [dl w])) else none).map _) = _
  rw [if_pos (by rw [List.length_map]; omega)]
  show some (Except.ok (D.lst (st.map dl ++ [dl w]), _)) = _
  rw [show st.map dl ++ [dl w] = (st ++ [w]).map dl by rw [List.map_append]; rfl]
theorem loop_len : ∀ (m k : Nat) {S : HS} {p : Nat} {r : HS × Nat}, loopR ws m k S p = .ok r → S.1.length ≤ r.1.1.length ∧ (k = 0 → 0 < m → 1 ≤ r.1.1.length)
  | 0, _, _, _, _, e => by cases e; exact ⟨Nat.le_refl _, fun _ z => absurd z (Nat.not_lt_zero _)⟩
  | m + 1, k, S, p, r, e => by
    unfold loopR at e
    split at e
    · cases e
    · rename_i r0 e0
      obtain ⟨a, _⟩ := loop_len m (k + 1) e
      unfold stepR at e0
      split at e0
      · split at e0
        · cases e0
        · rename_i v ev
          cases e0
          have : (S.1 ++ [v.1]).length = S.1.length + 1 := List.length_append
          have a : (S.1 ++ [v.1]).length ≤ r.1.1.length := a
          exact ⟨by omega, fun _ _ => by omega⟩
      · rename_i hn
        cases e0
        exact ⟨a, fun z => absurd (.inl z) hn⟩
theorem ownP_le {j : Nat} {p : List (List Nat) × Nat} (e : ownP ws j = .ok p) : p.2 ≤ ws.length := by
  unfold ownP at e
  split at e
  · split at e
    · rename_i h1
      have l1 := new_lt h1
      split at e
      · rename_i h2
        have l2 := nm_lt h2
        split at e
        · cases e; exact l2
        · cases e
      · cases e; exact l1
    · cases e
  · cases e
theorem lit_sS (s : String) : Str.ofString s = sS (Wd s) := ext_tl (by rw [tl_ofString]; rfl)
theorem fmt_512 : dFmt (dn 512) = some (Str.ofString (toString (512 : Int))) := by
  show (if ((512 : Nat) : Int).natAbs.log2 < 1920 then some (Str.ofString (toString ((512 : Nat) : Int))) else none) = _
  rw [if_pos (by decide +kernel)]; rfl
theorem ways_txt : ([Str.ofString "a house has at most ", Str.ofString (toString (512 : Int)), Str.ofString " ways"].map fun x => x.length).sum ≤ 100000 := by
  rw [lit_sS, lit_sS, lit_sS]
  simp only [List.map_cons, List.map_nil, List.sum_cons, List.sum_nil, len_s]
  decide +kernel
theorem parse_ok {tx : D} (lw : ∀ s ∈ ws, WOk s) (hr : mk_Reader [tx] = some (rdV ws 0)) (hw : ws.length ≤ 900) : e_parse_house tx = houseE ws := by
  unfold e_parse_house r_parse_house houseE houseR
  simp -implicitDefEqProofs only [Option.bind_some, Option.map_some, if_true_, if_ff, if_T, if_F, on0_s, on1_s, on2_s, on3_s, on4_s, on5_s, on6_s, asL_l, asL_r, asT_t, asB_b, len_l, len_r, len_t, l_0, l_1, l_2, l_3, l_4, l_5, l_6, l_7, l_8, l_9, l_10, l_11, l_12, l_13, l_14, l_15, l_20, l_21, l_22, l_25, l_26, l_30, l_31, l_32, l_36, l_38, l_40, l_60, l_64, l_70, l_96, l_97, l_100, l_128, l_512, l_7919, int_n, int_i, int_bn, add_n, ix_ln, ix_rn, ix_tn, list_l, list_t, few0, few1, few2, few3, few5, lt_n, gt_n, le_n, eqF_n, neF_n, rng1_m, flT_nx, flT_rt, flF_nx, flE_rt, un2_t, un3_t, tru_l, tru_b, app_n, cap_n, flat_n, flat_bl, optI_n, sl_n, zero_add_, hr, okR_s, then_ok, lit_s]
  rw [tk_v (al := [Wd "house"]) (m := some (D.lst [sD (Wd "house")])) (ws := ws) (i := 0) rfl (Nat.zero_le _) (by omega)]
  by_cases h0 : ws.getD 0 [] = Wd "house"
  · have l0 : 1 ≤ ws.length := gd_lt (by rw [h0]; decide +kernel)
    rw [if_pos h0, if_pos (by rw [h0]; exact List.mem_cons_self), then_ok]
    have lp := fun c k hc hk => ph_loop (ws := ws) (c := c) (k := k) hc hk 5 ([], [], []) 1 1000 rfl (by decide) l0 HI.start
    have lp2 : ∀ (c : St4 → Rs (Bool × St4)) (k : St4 → Rs St4) (g : St4 → Rs D), _ → _ → thenR (whE c k 1000 (rdV ws (0 + 1), D.lst [], D.lst [], D.lst [])) g = thenR (endE ws (loopR ws 5 0 ([], [], []) 1)) g := fun c k g hc hk => congrArg (fun z => thenR z g) (lp c k hc hk)
    rw [lp2 _ _ _ (fun S p hp => ?_) (fun S p h hl hp => ?_)]
    · cases el : loopR ws 5 0 ([], [], []) 1 with
      | error x => rfl
      | ok a =>
        obtain ⟨i1, i2, i3⟩ := loop_inv 5 0 HI.start l0 el
        have i4 := (loop_len 5 0 el).2 rfl (by decide)
        have i3 : a.1.1.length ≤ 5 := i3
        unfold endE finR
        dsimp only
        by_cases z : ws.getD a.2 [] = Wd "end"
        · have l1 : a.2 < ws.length := gd_lt (by rw [z]; decide +kernel)
          rw [if_pos z, if_pos z, then_ok]
          unfold stD
          dsimp only
          rw [fin_v (ws := ws) (i := a.2 + 1) l1 (by omega)]
          by_cases y : ws.length = a.2 + 1
          · rw [if_pos y, if_pos y.symm, then_ok]
            have ho := i1.house i4 i3
            have em := mk_ok (nm := a.1.1) (wd := a.1.2.1) (hs := a.1.2.2) (by rw [i1.wdl]; omega) (by rw [i1.hsl]; omega)
            simp -implicitDefEqProofs only [Option.bind_some, Option.map_some, if_true_, if_ff, if_T, if_F, on0_s, on1_s, on2_s, on3_s, on4_s, on5_s, on6_s, asL_l, asL_r, asT_t, asB_b, len_l, len_r, len_t, l_0, l_1, l_2, l_3, l_4, l_5, l_6, l_7, l_8, l_9, l_10, l_11, l_12, l_13, l_14, l_15, l_20, l_21, l_22, l_25, l_26, l_30, l_31, l_32, l_36, l_38, l_40, l_60, l_64, l_70, l_96, l_97, l_100, l_128, l_512, l_7919, int_n, int_i, int_bn, add_n, ix_ln, ix_rn, ix_tn, list_l, list_t, few0, few1, few2, few3, few5, lt_n, gt_n, le_n, eqF_n, neF_n, rng1_m, flT_nx, flT_rt, flF_nx, flE_rt, un2_t, un3_t, tru_l, tru_b, app_n, cap_n, flat_n, flat_bl, optI_n, sl_n, zero_add_, em, okR_s, then_ok, ho.ways]
            by_cases w : 512 < wayN (cntS a.1) a.1.2.2
            · rw [if_pos w, decide_eq_true w]
              simp -implicitDefEqProofs only [Option.bind_some, Option.map_some, if_true_, if_ff, if_T, if_F, on0_s, on1_s, on2_s, on3_s, on4_s, on5_s, on6_s, asL_l, asL_r, asT_t, asB_b, len_l, len_r, len_t, l_0, l_1, l_2, l_3, l_4, l_5, l_6, l_7, l_8, l_9, l_10, l_11, l_12, l_13, l_14, l_15, l_20, l_21, l_22, l_25, l_26, l_30, l_31, l_32, l_36, l_38, l_40, l_60, l_64, l_70, l_96, l_97, l_100, l_128, l_512, l_7919, int_n, int_i, int_bn, add_n, ix_ln, ix_rn, ix_tn, list_l, list_t, few0, few1, few2, few3, few5, lt_n, gt_n, le_n, eqF_n, neF_n, rng1_m, flT_nx, flT_rt, flF_nx, flE_rt, un2_t, un3_t, tru_l, tru_b, app_n, cap_n, flat_n, flat_bl, optI_n, sl_n, zero_add_, fmt_512]
              rw [if_pos ways_txt]
              rfl
            · rw [if_neg w, decide_eq_false w]; rfl
          · rw [if_neg y, if_neg (fun q => y q.symm)]; rfl
        · rw [if_neg z, if_neg z]; rfl
    · unfold stD
      simp -implicitDefEqProofs only [Option.bind_some, Option.map_some, if_true_, if_ff, if_T, if_F, on0_s, on1_s, on2_s, on3_s, on4_s, on5_s, on6_s, asL_l, asL_r, asT_t, asB_b, len_l, len_r, len_t, l_0, l_1, l_2, l_3, l_4, l_5, l_6, l_7, l_8, l_9, l_10, l_11, l_12, l_13, l_14, l_15, l_20, l_21, l_22, l_25, l_26, l_30, l_31, l_32, l_36, l_38, l_40, l_60, l_64, l_70, l_96, l_97, l_100, l_128, l_512, l_7919, int_n, int_i, int_bn, add_n, ix_ln, ix_rn, ix_tn, list_l, list_t, few0, few1, few2, few3, few5, lt_n, gt_n, le_n, eqF_n, neF_n, rng1_m, flT_nx, flT_rt, flF_nx, flE_rt, un2_t, un3_t, tru_l, tru_b, app_n, cap_n, flat_n, flat_bl, optI_n, sl_n, zero_add_, words_after_ok, List.length_map, flat_n]
      rw [tk_v (al := alv S.1.length) (m := some (ssD (alv S.1.length))) (ws := ws) (i := p) rfl hp (by omega)]
      by_cases h1 : ws.getD p [] ∈ alv S.1.length
      · rw [if_pos h1, if_pos h1, then_ok]
        simp -implicitDefEqProofs only [Option.bind_some, Option.map_some, if_true_, if_ff, if_T, if_F, on0_s, on1_s, on2_s, on3_s, on4_s, on5_s, on6_s, asL_l, asL_r, asT_t, asB_b, len_l, len_r, len_t, l_0, l_1, l_2, l_3, l_4, l_5, l_6, l_7, l_8, l_9, l_10, l_11, l_12, l_13, l_14, l_15, l_20, l_21, l_22, l_25, l_26, l_30, l_31, l_32, l_36, l_38, l_40, l_60, l_64, l_70, l_96, l_97, l_100, l_128, l_512, l_7919, int_n, int_i, int_bn, add_n, ix_ln, ix_rn, ix_tn, list_l, list_t, few0, few1, few2, few3, few5, lt_n, gt_n, le_n, eqF_n, neF_n, rng1_m, flT_nx, flT_rt, flF_nx, flE_rt, un2_t, un3_t, tru_l, tru_b, app_n, cap_n, flat_n, flat_bl, optI_n, sl_n, zero_add_, eqF_s, okR_s, then_ok]
      · rw [if_neg h1, if_neg h1]; rfl
    · unfold stD varP
      simp -implicitDefEqProofs only [Option.bind_some, Option.map_some, if_true_, if_ff, if_T, if_F, on0_s, on1_s, on2_s, on3_s, on4_s, on5_s, on6_s, asL_l, asL_r, asT_t, asB_b, len_l, len_r, len_t, l_0, l_1, l_2, l_3, l_4, l_5, l_6, l_7, l_8, l_9, l_10, l_11, l_12, l_13, l_14, l_15, l_20, l_21, l_22, l_25, l_26, l_30, l_31, l_32, l_36, l_38, l_40, l_60, l_64, l_70, l_96, l_97, l_100, l_128, l_512, l_7919, int_n, int_i, int_bn, add_n, ix_ln, ix_rn, ix_tn, list_l, list_t, few0, few1, few2, few3, few5, lt_n, gt_n, le_n, eqF_n, neF_n, rng1_m, flT_nx, flT_rt, flF_nx, flE_rt, un2_t, un3_t, tru_l, tru_b, app_n, cap_n, flat_n, flat_bl, optI_n, sl_n, zero_add_, flatL_s, okR_s, then_ok]
      rw [tn_v (us := S.1) (m := some (ssD S.1)) rfl lw hp (by omega)]
      by_cases h1 : newB S.1 (ws.getD (p + 1) []) = true
      · have l1 := new_lt h1
        rw [if_pos h1, if_pos h1, apR_ok (by omega), then_ok]
        dsimp only
        rw [tk_v (al := [Wd "says"]) (m := some (D.lst [sD (Wd "says")])) (ws := ws) (i := p + 1 + 1) rfl l1 (by omega)]
        by_cases h2 : ws.getD (p + 2) [] = Wd "says"
        · have l2 : p + 2 < ws.length := gd_lt (by rw [h2]; decide +kernel)
          rw [if_pos h2, if_pos (show ws.getD (p + 1 + 1) [] ∈ [Wd "says"] by rw [show p + 1 + 1 = p + 2 from rfl, h2]; exact List.mem_cons_self), then_ok]
          dsimp only
          rw [ownP_ok (i := p + 1 + 1 + 1) lw l2 (by omega)]
          show thenR (apR _ (toE (ownP ws (p + 3)) _)) _ = _
          cases eo : ownP ws (p + 3) with
          | error x => rfl
          | ok o =>
            have wl := h.wdl
            have hl2 := h.hsl
            show thenR (apR (sssD S.2.1) (some (.ok (ssD o.1, rdV ws o.2)))) _ = _
            rw [apR_w (by omega), then_ok]
            dsimp only
            rw [heard_ok (ws := ws) (nm := S.1) (i := o.2) h.nd h.ne (h.ke (by decide +kernel)) (by omega) (ownP_le eo) (by omega)]
            cases eh : heardP ws S.1 o.2 with
            | error x => rfl
            | ok q =>
              show thenR (apR (dll S.2.2) (some (.ok (dl q.1, rdV ws q.2)))) _ = _
              rw [apR_h (by omega), then_ok]
              rfl
        · rw [if_neg h2, if_neg (show ¬ ws.getD (p + 1 + 1) [] ∈ [Wd "says"] from fun y => h2 (List.mem_singleton.mp y))]
          rfl
      · rw [if_neg h1, if_neg h1]; rfl
  · rw [if_neg h0, if_neg (fun y => h0 (List.mem_singleton.mp y))]; rfl
end
end Oh
namespace Oh
open PySem L2 TL
noncomputable abbrev AW (W : List (List Nat)) : Prop := ∀ s ∈ W, WOk s
theorem AW.app {A B : List (List Nat)} (ha : AW A) (hb : AW B) : AW (A ++ B) := fun s hs => (List.mem_append.mp hs).elim (ha s) (hb s)
theorem AW.one {a : List Nat} (h : WOk a) : AW [a] := fun s hs => by rw [List.mem_singleton.mp hs]; exact h
theorem AW.sub {A B : List (List Nat)} (hb : AW B) (h : ∀ s ∈ A, s ∈ B) : AW A := fun s hs => hb s (h s hs)
noncomputable def oddN : List (List Nat) := [Wd "A", Wd "1a", Wd "abcdefghijklm", Wd "abcdefghijkl", Wd "a1", Wd "a_b", Wd "a-1", Wd "aB", Wd "ends", Wd "z"]
theorem odd_w : ∀ s ∈ oddN, s ≠ [] ∧ 32 ∉ s ∧ s.length ≤ 13 ∧ ∀ c ∈ s, c < 0x110000 := by decide +kernel
theorem odd_ok {s : List Nat} (h : s ∈ oddN) : WOk s := ⟨(odd_w s h).1, (odd_w s h).2.1, (odd_w s h).2.2.1, (odd_w s h).2.2.2⟩
theorem oddE : few D.lst [sD (Wd "A"), sD (Wd "1a"), sD (Wd "abcdefghijklm"), sD (Wd "abcdefghijkl"), sD (Wd "a1"), sD (Wd "a_b"), sD (Wd "a-1"), sD (Wd "aB"), sD (Wd "ends"), sD (Wd "z")] = some (ssD oddN) := rfl
theorem ll_13 : D.int 13 = dn 13 := rfl
theorem new_ok {r : List Nat} {W : List (List Nat)} (hr : 16 ≤ r.length) (hW : AW W) (hl : W.length ≤ 1000) : Ok (m_law_new_word (dl r) (ssD W)) fun d => ∃ s, d = sD s ∧ WOk s := by
  have r0 := dns_at (getD_at (xs := r) (i := 0) (by omega))
  have r1 := dns_at (getD_at (xs := r) (i := 1) (by omega))
  have m13 : r.getD 1 0 % 13 < 13 := Nat.mod_lt _ (by decide)
  have m10 : r.getD 1 0 % 10 < 10 := Nat.mod_lt _ (by decide)
  obtain ⟨k1, k2⟩ := kept_at (r.getD 1 0 % 13) m13
  have o1 := ls_at (ls := oddN) (i := r.getD 1 0 % 10) m10
  unfold m_law_new_word
  simp -implicitDefEqProofs only [Option.bind_some, Option.map_some, if_true_, if_ff, if_T, if_F, on0_s, on1_s, on2_s, on3_s, on4_s, on5_s, on6_s, asL_l, asL_r, asT_t, asB_b, len_l, len_r, len_t, l_0, l_1, l_2, l_3, l_4, l_5, l_6, l_7, l_8, l_9, l_10, l_11, l_12, l_13, l_14, l_15, l_20, l_21, l_22, l_25, l_26, l_30, l_31, l_32, l_36, l_38, l_40, l_60, l_64, l_70, l_96, l_97, l_100, l_128, l_512, l_7919, int_n, int_i, int_bn, add_n, ix_ln, ix_rn, ix_tn, list_l, list_t, few0, few1, few2, few3, few5, lt_n, gt_n, le_n, eqF_n, neF_n, rng1_m, flT_nx, flT_rt, flF_nx, flE_rt, un2_t, un3_t, tru_l, tru_b, app_n, cap_n, flat_n, flat_bl, optI_n, sl_n, zero_add_, lit_s, oddE, r0, r1, mod_n (b := 4) (by decide), kept_ok, ll_13, mod_n (b := 13) (by decide), mod_n (b := 10) (by decide), mod_n (b := 20) (by decide), k1, o1]
  refine ok_ite (fun _ => ok_some ⟨_, rfl, kept_wok k2⟩) fun _ => ?_
  have ixW : ∀ (M : List (List Nat)) (j : Nat), j < M.length → dIx (ssD M) (dn j) = some (sD (M.getD j [])) := fun M j hj => by
    rw [← ls_at (ls := M) hj]
    have := ls_at (ls := M) hj
    simp -implicitDefEqProofs only [Option.bind_some, Option.map_some, if_true_, if_ff, if_T, if_F, on0_s, on1_s, on2_s, on3_s, on4_s, on5_s, on6_s, asL_l, asL_r, asT_t, asB_b, len_l, len_r, len_t, l_0, l_1, l_2, l_3, l_4, l_5, l_6, l_7, l_8, l_9, l_10, l_11, l_12, l_13, l_14, l_15, l_20, l_21, l_22, l_25, l_26, l_30, l_31, l_32, l_36, l_38, l_40, l_60, l_64, l_70, l_96, l_97, l_100, l_128, l_512, l_7919, int_n, int_i, int_bn, add_n, ix_ln, ix_rn, ix_tn, list_l, list_t, few0, few1, few2, few3, few5, lt_n, gt_n, le_n, eqF_n, neF_n, rng1_m, flT_nx, flT_rt, flF_nx, flE_rt, un2_t, un3_t, tru_l, tru_b, app_n, cap_n, flat_n, flat_bl, optI_n, sl_n, zero_add_]
  refine ok_bind (P := fun c : Bool => c = true → 0 < W.length) (ok_ite (fun _ => ok_some fun e => ?_) fun _ => ok_some fun e => nomatch e) fun c hc => ?_
  · cases W with
    | nil => cases e
    | cons a b => exact Nat.succ_pos _
  refine ok_ite (fun z => ?_) fun _ => ok_ite (fun _ => ?_) fun _ => ok_some ⟨_, rfl, odd_ok (getD_mem m10)⟩
  · have hw := hc z
    rw [List.length_map, mod_n hw, Option.bind_some, ixW W _ (Nat.mod_lt _ hw)]
    exact ok_some ⟨_, rfl, hW _ (getD_mem (Nat.mod_lt _ hw))⟩
  · rw [show (some (((2 : Nat) : Int))) = some ((2 : Nat) : Int) from rfl, cutD_from, ← List.map_drop]
    show Ok (m_law_name (dl (r.drop 2)) (dn (r.getD 1 0 % 20))) _
    rw [name_ok (by rw [List.length_drop]; omega)]
    exact ok_some ⟨_, rfl, (nameOk _ _).wok⟩
theorem changed_ok {r : List Nat} {W : List (List Nat)} (hr : 18 ≤ r.length) (hW : AW W) (hl : W.length ≤ 900) : Ok (m_law_changed (ssD W) (dl r)) fun d => ∃ W', d = ssD W' ∧ AW W' ∧ W'.length ≤ W.length + 1 := by
  have r0 := dns_at (getD_at (xs := r) (i := 0) (by omega))
  have r1 := dns_at (getD_at (xs := r) (i := 1) (by omega))
  have s2 : D.lst (cutD (dns r) (some ((2 : Nat) : Int)) none) = dl (r.drop 2) := by rw [cutD_from, ← List.map_drop]
  obtain ⟨_, en, s, rfl, hs1⟩ := new_ok (r := r.drop 2) (W := W) (by rw [List.length_drop]; omega) hW (by omega)
  unfold m_law_changed
  simp -implicitDefEqProofs only [Option.bind_some, Option.map_some, if_true_, if_ff, if_T, if_F, on0_s, on1_s, on2_s, on3_s, on4_s, on5_s, on6_s, asL_l, asL_r, asT_t, asB_b, len_l, len_r, len_t, l_0, l_1, l_2, l_3, l_4, l_5, l_6, l_7, l_8, l_9, l_10, l_11, l_12, l_13, l_14, l_15, l_20, l_21, l_22, l_25, l_26, l_30, l_31, l_32, l_36, l_38, l_40, l_60, l_64, l_70, l_96, l_97, l_100, l_128, l_512, l_7919, int_n, int_i, int_bn, add_n, ix_ln, ix_rn, ix_tn, list_l, list_t, few0, few1, few2, few3, few5, lt_n, gt_n, le_n, eqF_n, neF_n, rng1_m, flT_nx, flT_rt, flF_nx, flE_rt, un2_t, un3_t, tru_l, tru_b, app_n, cap_n, flat_n, flat_bl, optI_n, sl_n, zero_add_, r0, r1, mod_n (b := 5) (by decide), List.length_map, mod_n (b := W.length + 1) (by omega), s2, en]
  have t1 : ∀ a : Nat, D.lst (cutD (List.map sD W) none (some (a : Int))) = ssD (W.take a) := fun a => by rw [cutD_to, ssD, List.map_take]
  have t2 : ∀ a : Nat, D.lst (cutD (List.map sD W) (some (a : Int)) none) = ssD (W.drop a) := fun a => by rw [cutD_from, ssD, List.map_drop]
  have t3 : ∀ a : Nat, D.lst (cutD (List.map sD W) (some (a : Int)) (some ((a + 1 : Nat) : Int))) = ssD ((W.drop a).take 1) := fun a => by rw [cut_one, ssD, List.map_take, List.map_drop]
  rw [t1, t2, t2, t3, show D.lst [sD s] = ssD [s] from rfl]
  have hat : r.getD 1 0 % (W.length + 1) < W.length + 1 := Nat.mod_lt _ (Nat.succ_pos _)
  generalize r.getD 1 0 % (W.length + 1) = a at hat
  have ta : AW (W.take a) := hW.sub fun s hs => List.mem_of_mem_take hs
  have da : ∀ b, AW (W.drop b) := fun b => hW.sub fun s hs => List.mem_of_mem_drop hs
  have oa : AW ((W.drop a).take 1) := (da a).sub fun s hs => List.mem_of_mem_take hs
  have la : (W.take a).length = a := by rw [List.length_take]; omega
  have ld : ∀ b, (W.drop b).length = W.length - b := fun b => List.length_drop
  have lo : ((W.drop a).take 1).length ≤ 1 := by rw [List.length_take]; omega
  refine ok_ite (fun _ => ?_) fun _ => ok_ite (fun _ => ?_) fun _ => ok_ite (fun _ => ?_) fun _ => ok_ite (fun _ => ?_) fun _ => ok_some ⟨_, rfl, ta, by omega⟩
  · rw [catW (by rw [la]; show a + 1 ≤ _; omega), Option.bind_some, catW (by rw [List.length_append, la, ld]; show (a + 1) + _ ≤ _; omega)]
    exact ok_some ⟨_, rfl, (ta.app (.one hs1)).app (da _), by rw [List.length_append, List.length_append, la, ld]; show (a + 1) + _ ≤ _; omega⟩
  · rw [catW (by rw [la, ld]; omega)]
    exact ok_some ⟨_, rfl, ta.app (da _), by rw [List.length_append, la, ld]; omega⟩
  · rw [catW (by rw [la]; show a + 1 ≤ _; omega), Option.bind_some, catW (by rw [List.length_append, la, ld]; show (a + 1) + _ ≤ _; omega)]
    exact ok_some ⟨_, rfl, (ta.app (.one hs1)).app (da _), by rw [List.length_append, List.length_append, la, ld]; show (a + 1) + _ ≤ _; omega⟩
  · rw [catW (by rw [la]; omega), Option.bind_some, catW (by rw [List.length_append, la, ld]; omega)]
    exact ok_some ⟨_, rfl, (ta.app oa).app (da _), by rw [List.length_append, List.length_append, la, ld]; omega⟩
theorem house_good {ws : List (List Nat)} {S : HS} (e : houseR ws = .ok S) : HI S ∧ 1 ≤ S.1.length ∧ S.1.length ≤ 5 := by
  unfold houseR at e
  split at e
  · rename_i h0
    have l0 : 1 ≤ ws.length := gd_lt (by rw [h0]; decide +kernel)
    split at e
    · cases e
    · rename_i r er
      split at e
      · cases e
      · cases e
        obtain ⟨i1, _, i3⟩ := loop_inv 5 0 HI.start l0 er
        exact ⟨i1, (loop_len 5 0 er).2 rfl (by decide), i3⟩
  · cases e
noncomputable def tdD (ws : List (List Nat)) : D := match houseR ws with
  | .error e => .tup [dn e, .non]
  | .ok S => if 512 < wayN (cntS S) S.2.2 then .tup [.int (-2), .non] else .tup [.int (-1), houseV S.1 S.2.1 S.2.2]
theorem told_ok {ws : List (List Nat)} {tx : D} (lw : ∀ s ∈ ws, WOk s) (hr : mk_Reader [tx] = some (rdV ws 0)) (hw : ws.length ≤ 900) : m_law_told tx = some (tdD ws) := by
  have e := parse_ok lw hr hw
  unfold m_law_told r_law_told tdD
  simp -implicitDefEqProofs only [Option.bind_some, Option.map_some, if_true_, if_ff, if_T, if_F, on0_s, on1_s, on2_s, on3_s, on4_s, on5_s, on6_s, asL_l, asL_r, asT_t, asB_b, len_l, len_r, len_t, l_0, l_1, l_2, l_3, l_4, l_5, l_6, l_7, l_8, l_9, l_10, l_11, l_12, l_13, l_14, l_15, l_20, l_21, l_22, l_25, l_26, l_30, l_31, l_32, l_36, l_38, l_40, l_60, l_64, l_70, l_96, l_97, l_100, l_128, l_512, l_7919, int_n, int_i, int_bn, add_n, ix_ln, ix_rn, ix_tn, list_l, list_t, few0, few1, few2, few3, few5, lt_n, gt_n, le_n, eqF_n, neF_n, rng1_m, flT_nx, flT_rt, flF_nx, flE_rt, un2_t, un3_t, tru_l, tru_b, app_n, cap_n, flat_n, flat_bl, optI_n, sl_n, zero_add_, neg1]
  show ((e_parse_house tx).bind (toldR4 2 3 (.int (-1)))) = _
  rw [e]
  unfold houseE
  cases houseR ws with
  | error x => rfl
  | ok S =>
    dsimp only
    by_cases w : 512 < wayN (cntS S) S.2.2
    · rw [if_pos w, if_pos w]; rfl
    · rw [if_neg w, if_neg w]; rfl
theorem cap_at {j : Nat} (h : j < 4) : ∃ cap, 32 ≤ cap ∧ [D.int 600, D.int 5000, D.int 1000000000000, dn 512][j]? = some (dn cap) := by
  match j, h with
  | 0, _ => exact ⟨600, by decide, rfl⟩
  | 1, _ => exact ⟨5000, by decide, rfl⟩
  | 2, _ => exact ⟨1000000000000, by decide, rfl⟩
  | 3, _ => exact ⟨512, by decide, rfl⟩
theorem pow_12 : dPow (dn 10) (dn 12) = some (D.int 1000000000000) := rfl
theorem few4 {k : List D → D} {a b c d : D} : few k [a, b, c, d] = some (k [a, b, c, d]) := few_s (by show 4 ≤ 100000; decide)
theorem neg2 : dNeg (dn 2) = some (.int (-2)) := rfl
theorem ne_f {a b : Int} : dNeF (.int a) (.int b) = some (.bl (!decide (a = b))) := rfl
theorem eq_f {a b : Int} : dEqF (.int a) (.int b) = some (.bl (decide (a = b))) := rfl
theorem law4_ok (ns : List Int) : Ok (m_law (.rol (dis ns))) (fun d => d = .bl true) := by
  unfold m_law
  simp -implicitDefEqProofs only [Option.bind_some, Option.map_some, if_true_, if_ff, if_T, if_F, on0_s, on1_s, on2_s, on3_s, on4_s, on5_s, on6_s, asL_l, asL_r, asT_t, asB_b, len_l, len_r, len_t, l_0, l_1, l_2, l_3, l_4, l_5, l_6, l_7, l_8, l_9, l_10, l_11, l_12, l_13, l_14, l_15, l_20, l_21, l_22, l_25, l_26, l_30, l_31, l_32, l_36, l_38, l_40, l_60, l_64, l_70, l_96, l_97, l_100, l_128, l_512, l_7919, int_n, int_i, int_bn, add_n, ix_ln, ix_rn, ix_tn, list_l, list_t, few0, few1, few2, few3, few5, lt_n, gt_n, le_n, eqF_n, neF_n, rng1_m, flT_nx, flT_rt, flF_nx, flE_rt, un2_t, un3_t, tru_l, tru_b, app_n, cap_n, flat_n, flat_bl, optI_n, sl_n, zero_add_]
  refine ok_bind (rowN_ok ns 8 10 (by decide)) fun r ⟨xs, e, hl, _⟩ => ?_
  subst e
  have rx : ∀ i, i < 10 → (dns xs)[i]? = some (dn (xs.getD i 0)) := fun i hi => dns_at (getD_at (by omega))
  simp -implicitDefEqProofs only [Option.bind_some, Option.map_some, if_true_, if_ff, if_T, if_F, on0_s, on1_s, on2_s, on3_s, on4_s, on5_s, on6_s, asL_l, asL_r, asT_t, asB_b, len_l, len_r, len_t, l_0, l_1, l_2, l_3, l_4, l_5, l_6, l_7, l_8, l_9, l_10, l_11, l_12, l_13, l_14, l_15, l_20, l_21, l_22, l_25, l_26, l_30, l_31, l_32, l_36, l_38, l_40, l_60, l_64, l_70, l_96, l_97, l_100, l_128, l_512, l_7919, int_n, int_i, int_bn, add_n, ix_ln, ix_rn, ix_tn, list_l, list_t, few0, few1, few2, few3, few5, lt_n, gt_n, le_n, eqF_n, neF_n, rng1_m, flT_nx, flT_rt, flF_nx, flE_rt, un2_t, un3_t, tru_l, tru_b, app_n, cap_n, flat_n, flat_bl, optI_n, sl_n, zero_add_, rx 8 (by decide), rx 9 (by decide), mod_n (b := 4) (by decide), mod_n (b := 3) (by decide)]
  obtain ⟨cap, hcap, ec⟩ := cap_at (j := xs.getD 9 0 % 4) (Nat.mod_lt _ (by decide))
  simp -implicitDefEqProofs only [Option.bind_some, Option.map_some, if_true_, if_ff, if_T, if_F, on0_s, on1_s, on2_s, on3_s, on4_s, on5_s, on6_s, asL_l, asL_r, asT_t, asB_b, len_l, len_r, len_t, l_0, l_1, l_2, l_3, l_4, l_5, l_6, l_7, l_8, l_9, l_10, l_11, l_12, l_13, l_14, l_15, l_20, l_21, l_22, l_25, l_26, l_30, l_31, l_32, l_36, l_38, l_40, l_60, l_64, l_70, l_96, l_97, l_100, l_128, l_512, l_7919, int_n, int_i, int_bn, add_n, ix_ln, ix_rn, ix_tn, list_l, list_t, few0, few1, few2, few3, few5, lt_n, gt_n, le_n, eqF_n, neF_n, rng1_m, flT_nx, flT_rt, flF_nx, flE_rt, un2_t, un3_t, tru_l, tru_b, app_n, cap_n, flat_n, flat_bl, optI_n, sl_n, zero_add_, pow_12, few4, ec]
  refine ok_bind (house_ok ns 0 cap hcap) fun r ⟨cs, hs, nm, wd, e, ho, _⟩ => ?_
  subst e
  simp -implicitDefEqProofs only [Option.bind_some, Option.map_some, if_true_, if_ff, if_T, if_F, on0_s, on1_s, on2_s, on3_s, on4_s, on5_s, on6_s, asL_l, asL_r, asT_t, asB_b, len_l, len_r, len_t, l_0, l_1, l_2, l_3, l_4, l_5, l_6, l_7, l_8, l_9, l_10, l_11, l_12, l_13, l_14, l_15, l_20, l_21, l_22, l_25, l_26, l_30, l_31, l_32, l_36, l_38, l_40, l_60, l_64, l_70, l_96, l_97, l_100, l_128, l_512, l_7919, int_n, int_i, int_bn, add_n, ix_ln, ix_rn, ix_tn, list_l, list_t, few0, few1, few2, few3, few5, lt_n, gt_n, le_n, eqF_n, neF_n, rng1_m, flT_nx, flT_rt, flF_nx, flE_rt, un2_t, un3_t, tru_l, tru_b, app_n, cap_n, flat_n, flat_bl, optI_n, sl_n, zero_add_, ho.lwords, rng_s (n := xs.getD 8 0 % 3) (by have : xs.getD 8 0 % 3 < 3 := Nat.mod_lt _ (by decide); omega)]
  have hw0 := ho.words_le
  have m3 : xs.getD 8 0 % 3 < 3 := Nat.mod_lt _ (by decide)
  refine ok_bind (P := fun d => ∃ W, d = ssD W ∧ AW W ∧ W.length ≤ 62 + xs.getD 8 0 % 3) (forS_ok (fun i d => ∃ W, d = ssD W ∧ AW W ∧ W.length ≤ 62 + i) ⟨_, rfl, fun s hs1 => (ho.words_all s hs1).elim kept_wok NameOk.wok, by omega⟩ (fun i x d hx hd => ?_) fun d hd => by rw [dns_len, List.length_range] at hd; exact hd) fun d ⟨W, hd, hW, hlW⟩ => ?_
  · obtain ⟨W, rfl, hW, hlW⟩ := hd
    have hi2 : i < xs.getD 8 0 % 3 := by have := (List.getElem?_eq_some_iff.mp hx).1; rwa [dns_len, List.length_range] at this
    rw [dns_at (List.getElem?_range hi2)] at hx
    cases hx
    obtain ⟨_, er, ys, rfl, hy, _⟩ := rowN_ok ns (9 + i) 20 (by decide)
    obtain ⟨_, ec2, W', rfl, hW', hl'⟩ := changed_ok (r := ys) (W := W) (by omega) hW (by omega)
    simp -implicitDefEqProofs only [Option.bind_some, Option.map_some, if_true_, if_ff, if_T, if_F, on0_s, on1_s, on2_s, on3_s, on4_s, on5_s, on6_s, asL_l, asL_r, asT_t, asB_b, len_l, len_r, len_t, l_0, l_1, l_2, l_3, l_4, l_5, l_6, l_7, l_8, l_9, l_10, l_11, l_12, l_13, l_14, l_15, l_20, l_21, l_22, l_25, l_26, l_30, l_31, l_32, l_36, l_38, l_40, l_60, l_64, l_70, l_96, l_97, l_100, l_128, l_512, l_7919, int_n, int_i, int_bn, add_n, ix_ln, ix_rn, ix_tn, list_l, list_t, few0, few1, few2, few3, few5, lt_n, gt_n, le_n, eqF_n, neF_n, rng1_m, flT_nx, flT_rt, flF_nx, flE_rt, un2_t, un3_t, tru_l, tru_b, app_n, cap_n, flat_n, flat_bl, optI_n, sl_n, zero_add_, er, ec2]
    exact ok_some ⟨_, rfl, hW', by omega⟩
  · subst hd
    obtain ⟨d, er2, hr2⟩ := lread_ok (ws := W) hW (by omega)
    obtain ⟨_, es, l, rfl, el⟩ := spaced_ok (W := W) (xs := xs) (by omega) hW (by omega)
    have et := told_ok (ws := W) hW el (by omega)
    unfold tdD at et
    simp -implicitDefEqProofs only [Option.bind_some, Option.map_some, if_true_, if_ff, if_T, if_F, on0_s, on1_s, on2_s, on3_s, on4_s, on5_s, on6_s, asL_l, asL_r, asT_t, asB_b, len_l, len_r, len_t, l_0, l_1, l_2, l_3, l_4, l_5, l_6, l_7, l_8, l_9, l_10, l_11, l_12, l_13, l_14, l_15, l_20, l_21, l_22, l_25, l_26, l_30, l_31, l_32, l_36, l_38, l_40, l_60, l_64, l_70, l_96, l_97, l_100, l_128, l_512, l_7919, int_n, int_i, int_bn, add_n, ix_ln, ix_rn, ix_tn, list_l, list_t, few0, few1, few2, few3, few5, lt_n, gt_n, le_n, eqF_n, neF_n, rng1_m, flT_nx, flT_rt, flF_nx, flE_rt, un2_t, un3_t, tru_l, tru_b, app_n, cap_n, flat_n, flat_bl, optI_n, sl_n, zero_add_, er2, es, et, neg1, neg2]
    cases e2 : houseR W with
    | error k =>
      rw [e2] at hr2
      obtain ⟨x, rfl⟩ := hr2
      have k1 : ¬ ((k : Nat) : Int) = -1 := by omega
      simp -implicitDefEqProofs only [Option.bind_some, Option.map_some, if_true_, if_ff, if_T, if_F, on0_s, on1_s, on2_s, on3_s, on4_s, on5_s, on6_s, asL_l, asL_r, asT_t, asB_b, len_l, len_r, len_t, l_0, l_1, l_2, l_3, l_4, l_5, l_6, l_7, l_8, l_9, l_10, l_11, l_12, l_13, l_14, l_15, l_20, l_21, l_22, l_25, l_26, l_30, l_31, l_32, l_36, l_38, l_40, l_60, l_64, l_70, l_96, l_97, l_100, l_128, l_512, l_7919, int_n, int_i, int_bn, add_n, ix_ln, ix_rn, ix_tn, list_l, list_t, few0, few1, few2, few3, few5, lt_n, gt_n, le_n, eqF_n, neF_n, rng1_m, flT_nx, flT_rt, flF_nx, flE_rt, un2_t, un3_t, tru_l, tru_b, app_n, cap_n, flat_n, flat_bl, optI_n, sl_n, zero_add_, eq_f, decide_eq_false k1, ne_f, decide_eq_true, Bool.not_true, Bool.not_false]
      exact ok_some rfl
    | ok S =>
      rw [e2] at hr2
      obtain rfl : d = _ := hr2
      obtain ⟨i1, i2, i3⟩ := house_good e2
      have hh := i1.house i2 i3
      have x1 : dIx (hD S) (dn 1) = some (sssD S.2.1) := rfl
      have x2 : dIx (hD S) (dn 2) = some (dll S.2.2) := rfl
      have cn : compD (fun c_67 => Option.map some (dLen c_67)) (S.2.1.map ssD) = some (dns (cntS S)) := by
        unfold cntS
        rw [dns, List.map_map]
        exact compD_map ssD (fun w => dn w.length) fun w _ => by simp -implicitDefEqProofs only [Option.bind_some, Option.map_some, if_true_, if_ff, if_T, if_F, on0_s, on1_s, on2_s, on3_s, on4_s, on5_s, on6_s, asL_l, asL_r, asT_t, asB_b, len_l, len_r, len_t, l_0, l_1, l_2, l_3, l_4, l_5, l_6, l_7, l_8, l_9, l_10, l_11, l_12, l_13, l_14, l_15, l_20, l_21, l_22, l_25, l_26, l_30, l_31, l_32, l_36, l_38, l_40, l_60, l_64, l_70, l_96, l_97, l_100, l_128, l_512, l_7919, int_n, int_i, int_bn, add_n, ix_ln, ix_rn, ix_tn, list_l, list_t, few0, few1, few2, few3, few5, lt_n, gt_n, le_n, eqF_n, neF_n, rng1_m, flT_nx, flT_rt, flF_nx, flE_rt, un2_t, un3_t, tru_l, tru_b, app_n, cap_n, flat_n, flat_bl, optI_n, sl_n, zero_add_, List.length_map]
      have cw := hh.shp.count
      simp -implicitDefEqProofs only [Option.bind_some, Option.map_some, if_true_, if_ff, if_T, if_F, on0_s, on1_s, on2_s, on3_s, on4_s, on5_s, on6_s, asL_l, asL_r, asT_t, asB_b, len_l, len_r, len_t, l_0, l_1, l_2, l_3, l_4, l_5, l_6, l_7, l_8, l_9, l_10, l_11, l_12, l_13, l_14, l_15, l_20, l_21, l_22, l_25, l_26, l_30, l_31, l_32, l_36, l_38, l_40, l_60, l_64, l_70, l_96, l_97, l_100, l_128, l_512, l_7919, int_n, int_i, int_bn, add_n, ix_ln, ix_rn, ix_tn, list_l, list_t, few0, few1, few2, few3, few5, lt_n, gt_n, le_n, eqF_n, neF_n, rng1_m, flT_nx, flT_rt, flF_nx, flE_rt, un2_t, un3_t, tru_l, tru_b, app_n, cap_n, flat_n, flat_bl, optI_n, sl_n, zero_add_, eq_f, decide_eq_true, x1, x2, capM_s (xs := S.2.1.map ssD) (by rw [List.length_map, i1.wdl]; omega), cn, cw]
      by_cases w : 512 < wayN (cntS S) S.2.2
      · rw [decide_eq_true w, if_pos w]
        simp -implicitDefEqProofs only [Option.bind_some, Option.map_some, if_true_, if_ff, if_T, if_F, on0_s, on1_s, on2_s, on3_s, on4_s, on5_s, on6_s, asL_l, asL_r, asT_t, asB_b, len_l, len_r, len_t, l_0, l_1, l_2, l_3, l_4, l_5, l_6, l_7, l_8, l_9, l_10, l_11, l_12, l_13, l_14, l_15, l_20, l_21, l_22, l_25, l_26, l_30, l_31, l_32, l_36, l_38, l_40, l_60, l_64, l_70, l_96, l_97, l_100, l_128, l_512, l_7919, int_n, int_i, int_bn, add_n, ix_ln, ix_rn, ix_tn, list_l, list_t, few0, few1, few2, few3, few5, lt_n, gt_n, le_n, eqF_n, neF_n, rng1_m, flT_nx, flT_rt, flF_nx, flE_rt, un2_t, un3_t, tru_l, tru_b, app_n, cap_n, flat_n, flat_bl, optI_n, sl_n, zero_add_, ne_f, decide_eq_true, Bool.not_true]
        exact ok_some rfl
      · rw [decide_eq_false w, if_neg w]
        have sm := hh.same
        simp -implicitDefEqProofs only [Option.bind_some, Option.map_some, if_true_, if_ff, if_T, if_F, on0_s, on1_s, on2_s, on3_s, on4_s, on5_s, on6_s, asL_l, asL_r, asT_t, asB_b, len_l, len_r, len_t, l_0, l_1, l_2, l_3, l_4, l_5, l_6, l_7, l_8, l_9, l_10, l_11, l_12, l_13, l_14, l_15, l_20, l_21, l_22, l_25, l_26, l_30, l_31, l_32, l_36, l_38, l_40, l_60, l_64, l_70, l_96, l_97, l_100, l_128, l_512, l_7919, int_n, int_i, int_bn, add_n, ix_ln, ix_rn, ix_tn, list_l, list_t, few0, few1, few2, few3, few5, lt_n, gt_n, le_n, eqF_n, neF_n, rng1_m, flT_nx, flT_rt, flF_nx, flE_rt, un2_t, un3_t, tru_l, tru_b, app_n, cap_n, flat_n, flat_bl, optI_n, sl_n, zero_add_, ne_f, decide_eq_true, Bool.not_true]
        exact ⟨_, sm, rfl⟩
theorem law4_done (ns : List Int) : m_law (.rol (dis ns)) = some (.bl true) := by
  obtain ⟨d, e, rfl⟩ := law4_ok ns
  exact e
end Oh
namespace Oh
theorem main_law : ∀ ns : List Int, ns.length ≤ 63 → m_law (.rol (ns.map D.int)) = some (.bl true) := fun ns _ => law4_done ns
end Oh
open PySem PySem.W PyProof.Rows
set_option maxRecDepth 100000 in
set_option maxHeartbeats 0 in
theorem PySem.Challenge.cw_otherhow_k04_house_refused_at_its_word_holds : PySem.Challenge.rw_otherhow_k04_house_refused_at_its_word.Holds := by
  w_on; o_law
  refine HandSHeadRun.head_imp (r := OpenLaw.row PySem.Challenge.rw_otherhow_k04_house_refused_at_its_word) (q := Hd.q) (H := Hd.hk) (ob := Hd.ob) (M := 20000) (loose := []) (d := HandSHeadRun.topDef (OpenLaw.row PySem.Challenge.rw_otherhow_k04_house_refused_at_its_word).prog 46) (kwd := []) Hd.ob_eq Hd.run (by kernel_rfl) (by kernel_rfl) (by kernel_rfl) (by rfl) (by first | assumption | decide +kernel) (by decide +kernel) ⟨rfl, rfl, rfl, rfl, rfl, by decide +kernel⟩ ?hw ?hc
  case hw => w_witness2
  case hc =>
    refine LamX.walk_ofTsE (l := PySem.Challenge.rw_otherhow_k04_house_refused_at_its_word) (n := 63) (k := 16) (x := "script") (CX := fun _ => L2.CX0) rfl (by decide) (by kernel_rfl) ⟨rfl, by decide, by decide⟩ ?F (fun _ _ _ _ _ h => h)
    intro w mg fa h Y G hmg0
    obtain ⟨K, KX, c, cz⟩ := Y
    have hmg : mg ("law" : PySem.Str) = some (.ref fa) := by
      have e : (HandSHeadRun.topDef (OpenLaw.row PySem.Challenge.rw_otherhow_k04_house_refused_at_its_word).prog 46).name = ("law" : PySem.Str) := by kernel_rfl
      rw [← e]
      exact hmg0
    exact ⟨K, KX, Oh.all_facts KX G hmg c cz Oh.main_law⟩
