/- What is proved: clerktop.TopTexts returns true, and leaves its arguments as they were, for every program, room, list of starts and list of what happens: a program told as a text does what the program does. Conditions: the arguments together hold at most 1048576 values and letters (the statement's own second form); the library's three tables are tied to the program's text by the card. -/
import Derived.Test.YtmmahddlcldmiaaGreatDoorCards
import Derived.Test.YtmmahddlcldmiaaGreatDoorTie
import Derived.Test.YtmmahddlcldmiaaGreatDoorT33
import Derived.Deep.DeepHandedRow
import Derived.Lib.LaidTab
import Derived.Stop.LaidErr
namespace Go.Proofs.YtmmahddlcldmiaaGreatDoor
open Go.ChangeShapes Go.WideShapes Go.ChangeAt Go.RowKit Go.Proofs.Tryz
set_option maxRecDepth 100000
theorem Qd: Tryz.prog.globalNamed "internal/strconv.uint64pow10" = some 0 := by kernel_rfl
theorem J8:(Tryz.prog.globals[0]?).map (·.type)=some 266:=by kernel_rfl
theorem Jv:Tryz.prog.cellsOf 266=20:=by kernel_rfl
theorem Jw:Tryz.prog.cellsOf 239=1:=by kernel_rfl
theorem Mv:(Rows.laid_internal_strconv_uint64pow10:DataW Unit)=Lib.tabData .u64 Lib.pow10Tab:=by kernel_rfl
theorem M3{W : World}(h : laidMetH Tryz.prog Rows.topTextsUptoRow.laid W): Lib.TabIs Tryz.prog W "internal/strconv.uint64pow10" .u64 Lib.pow10Tab := by
 have h1 : laidMet Tryz.prog [("math/bits.deBruijn32tab", Rows.laid_math_bits_deBruijn32tab), ("math/bits.deBruijn64tab", Rows.laid_math_bits_deBruijn64tab), ("internal/strconv.uint64pow10", Rows.laid_internal_strconv_uint64pow10)] W := h
 have h2:=laidMet.tail (laidMet.tail h1);rw[Mv]at h2;exact Lib.tabIs_of_head (rest:=[]) Qd J8 underlying266 underlying239 Jw Jv h2
theorem tU(H:Type)(enc:TypeId×Value->H)(W:World)(base:Nat)(args:Array Value)(m w:List (DataW H))(N:List MemPlace)(g:∀(j:Nat) t v,Tryz.f3.params[j]?=some t->args[j]?=some v->Value.okWide Tryz.prog W .any base t v)(C:DataW.Whole enc Tryz.prog Tryz.f3.params.toList Rows.topTextsSpec.vars false W args.toList m w N)(T:laidMetH Tryz.prog Rows.topTextsUptoRow.laid W)(D:Rows.uptoSmall H (m++w)=true):am 3 args W λe u=>∃v,e=.returned v/\Rows.topTextsSpec.post enc Tryz.prog Tryz.f3 false true false false W args v u:=by
 have d:=C;obtain⟨ao,aR,B,U,rfl,aG,aI⟩:=C;have A:DataW.TrodAll enc Tryz.prog W 0 (λ_=>true) true Tryz.f3.params.toList args.toList m ao:=B;rw[Tryz.params3]at A g;obtain⟨J,aW,d0,aB,E,aS,aF,rfl,rfl,x,ap⟩:=trodAll_cons A;obtain⟨K,aX,d1,aC,F,aT,rfl,rfl,rfl,S,aq⟩:=trodAll_cons ap;obtain⟨L,aY,d2,aD,G,aU,rfl,rfl,rfl,y,ar⟩:=trodAll_cons aq;obtain⟨M,aZ,d3,aE,I,aV,rfl,rfl,rfl,z,au⟩:=trodAll_cons ar;obtain⟨rfl,rfl,rfl⟩:=trodAll_nil au;obtain rfl:args= #[J,K,L,M]:=by cases args;simp_all
 obtain⟨rfl,rfl⟩:=trodVars_none U;have ab:∀a∈E,a.block<W.heap.size:=λa b=>by simpa using d.lt a (by simp[b])
 have ad:∀a∈F,a.block<W.heap.size:=λa b=>by simpa using d.lt a (by simp[b])
 have ae:∀a∈G,a.block<W.heap.size:=λa b=>by simpa using d.lt a (by simp[b])
 have af:∀a∈I,a.block<W.heap.size:=λa b=>by simpa using d.lt a (by simp[b])
 obtain⟨n,l,aj,ak,O,Y,Z,aa,a0⟩:=He (g 0 22 J rfl rfl) x;obtain⟨room,P⟩:=okWide_int underlying3 (g 1 3 K rfl rfl);have aH:(maxLen:Nat)=9223372036854775807:=rfl;obtain⟨h,i,sa,sc,Q,aL,aK,ag,aw⟩:=BS (g 2 23 L rfl rfl) y;obtain⟨r,s,ay,az,R,aN,aM,ah,a1⟩:=zF (g 3 24 M rfl rfl) z;have V:Rows.uptoBulkAll ([d0,d1,d2,d3]++ [])<=1048576:=ft D;simp only[dY,Rows.uptoBulkAll]at V;clear B D;have aP:=vJ (NG h) (λaA=>by unfold NG;omega) i;have aQ:=vJ (NF r) (λaA=>by unfold NF;omega) s;have an:∀c∈i,(ax (h+1) c.2).length<=2097152:=λc p=>by
  have q:=BV (NG h) i c p;have ai:=rz (h+1) c.2;unfold NG at q;unfold NG at aw;omega
 have al:∀(k:Nat)(l:List (Hn k)),(l.map (NF k)).sum<=1048576->∀c∈l,(ax (k+1) c.2).length<=2097152:=λk l aJ c p=>by
  have q:=BV (NF k) l c p;have ai:=rz (k+1) c.2;have aO:wt (k+1) c.2+1<=(l.map (NF k)).sum:=q;omega
 have av:=Ag n l aj ak room h i sa sc r s ay az W aa Y Z (λo=>BK n l o (by omega)) ag an ah (al r s (by omega)) (by omega) (by omega) (Lib.tabBelow_of_tabIs (M3 T));subst O P Q R;refine av.mono λe u ⟨X,f⟩=>?_;subst X;refine⟨_,rfl,_,_,_,[],E++(F++(G++(I++ []))),[],d,?_,?_,rfl,f.frame _,λo=>by cases o⟩
 ·exact trodAll_cons_mk (shut_bool underlying4 _) trodAll_mk0
 ·exact trodAll_cons_mk (Below.trod ub (by kernel_rfl) (ft (by kernel_rfl)) x f ab) (trodAll_cons_mk (Below.trod ub (by kernel_rfl) (ft (by kernel_rfl)) S f ad) (trodAll_cons_mk (Below.trod ub (by kernel_rfl) (ft (by kernel_rfl)) y f ae) (trodAll_cons_mk (Below.trod ub (by kernel_rfl) (ft (by kernel_rfl)) z f af) trodAll_mk0)))
def Gl:DataW Unit->Array Value
 | .agg l=>(l.map λ| .lit (.int k a)=>Value.int k a|_=> .nilIface).toArray
 | _=>#[]
def zb(d:DataW Unit):Obj->Obj
 | .cells _ t frozen=> .cells (Gl d) t frozen
 | o=>o
def uL(W:World):World:={W with heap:=((W.heap.modify 0 (zb Rows.laid_internal_strconv_uint64pow10)).modify 1 (zb Rows.laid_math_bits_deBruijn32tab)).modify 2 (zb Rows.laid_math_bits_deBruijn64tab)}
theorem Cx(os:Os):laidMet Tryz.prog Rows.topTextsUptoRow.laid (((uL (World.holding Tryz.prog os ⟨#[], #[],[]⟩)).forCall (λ_ _=>0) ⟨#[], #[ae none 0 0,ab 0,ae none 0 0,ae none 0 0],[]⟩).memory):=
 laidMet_of_run' 8 (by kernel_rfl) (by kernel_rfl)
theorem Ak(os:Os){H:Type}(enc:TypeId×Value->H):∃a,DataW.whole enc Tryz.prog ((uL (World.holding Tryz.prog os ⟨#[], #[],[]⟩)).forCall (λ_ _=>0) ⟨#[], #[ae none 0 0,ab 0,ae none 0 0,ae none 0 0],[]⟩).memory Tryz.f3.params.toList Rows.topTextsSpec.vars false #[Value.slice none 0 0,ab 0,ae none 0 0,ae none 0 0].toList 8=some ([.nil,.lit (.int .i64 0),.nil,.nil],[],a):=
 ⟨[],by kernel_rfl⟩
theorem wX(os:Os)(n:os.Started)(H:Type)(enc:TypeId×Value->H)(a:Stop.Interp):ReturnsInHanded {} Tryz.checked os 3 .any ((Rows.OpenSpec.upto Rows.topTextsSpec).preRow enc Tryz.prog Tryz.f3 Rows.topTextsUptoRow.domain false Rows.topTextsUptoRow.laid) (((Rows.OpenSpec.upto Rows.topTextsSpec).at a).post enc Tryz.prog Tryz.f3 false true false false):=by
 obtain⟨o,m⟩:=Ak os enc
 refine returnsInHanded_of_row (C:=Tryz.checked) (s:=Rows.OpenSpec.upto Rows.topTextsSpec) own n (by kernel_rfl) func3
  (witness_row_at (enc:=enc) (C:=Tryz.checked) false (uL (World.holding Tryz.prog os ⟨#[], #[],[]⟩)) #[ae none 0 0,ab 0,ae none 0 0,ae none 0 0] rfl (by kernel_rfl) (by kernel_rfl) (by kernel_rfl)
   (OpenSpec.preRow_of_cond 8 m (by kernel_rfl) (λk j=>by cases j;kernel_rfl) (by kernel_rfl) (Cx os))) ?_
 intro b c args e f d l h _ i _ g _ _;exact tU H enc b c args e f d l h g (i _ rfl)
theorem Cy:Rows.TopTextsUptoSaid:=
 OpenClaim.holds_of_cond 3 Tryz.f3 rfl rfl rfl rfl rfl rfl rfl ⟨rfl,rfl,rfl,rfl,rfl⟩ rfl rfl rfl rfl rfl (by kernel_rfl) func3 (by kernel_rfl)
  (ft (by kernel_rfl)) (by unfold Func.isWrapper;first|(rw[if_pos (by decide+kernel)];kernel_rfl)|(rw[if_neg (by decide+kernel)];exact⟨rfl,rfl⟩))
  (λos d b c _ a=>by rw[OpenClaim.pre_eq_preRow];exact wX os d b c a)
theorem Aj(f : FuncId)(fn : Func)(hf : Tryz.pinned.checked.prog.funcNamed "heapmail/clerktop.TopTexts" = some f)(hfn : Tryz.pinned.checked.prog.funcs[f]? = some fn):false=Tryz.pinned.checked.prog.looks []/\∀(j:Nat) t,fn.params[j]?=some t->Tryz.pinned.checked.prog.wantsStandIn t=false:=by
 obtain rfl : f = 3 := Option.some.inj ((show Tryz.prog.funcNamed "heapmail/clerktop.TopTexts" = some 3 by kernel_rfl).symm.trans hf) |>.symm
 obtain rfl:fn=Tryz.f3:=(aw (func3.symm.trans hfn)).symm;refine⟨by kernel_rfl,λj t ht=>?_⟩;rw[Tryz.params3]at ht;have ht2:t=22\/t=3\/t=23\/t=24:=by simpa using Array.mem_of_getElem? ht
 rcases ht2 with rfl|rfl|rfl|rfl
 ·exact(show Tryz.prog.wantsStandIn 22=false by kernel_rfl)
 ·exact(show Tryz.prog.wantsStandIn 3=false by kernel_rfl)
 ·exact(show Tryz.prog.wantsStandIn 23=false by kernel_rfl)
 ·exact(show Tryz.prog.wantsStandIn 24=false by kernel_rfl)
theorem ttexts_card:Rows.TopTextsUptoCardSaid:=
 Claim7.holds_tied_plain_at .later [] _ _ _ _ Cy (λ_ a=>by cases a) (by kernel_rfl) (λ_ a=>by cases a) topTextsUpto_row_tie rfl ⟨rfl,rfl⟩ (by kernel_rfl) rfl Aj (by kernel_rfl)
end Go.Proofs.YtmmahddlcldmiaaGreatDoor
