/- What is proved: clerktop.TopRows returns true, and leaves its arguments as they were, for every program, room, list of starts and list of what happens: between two processes messages are given in the order in which they were sent; what was sent, and is neither lost nor on its way, is what was given, in that order. Condition: the arguments together hold at most 1048576 values and letters (the statement's own second form). -/
import Derived.Test.YtmmahddlcldmiaaGreatR18
namespace Go.Proofs.YtmmahddlcldmiaaGreat
open Go.ChangeShapes Go.WideShapes Go.ChangeAt Go.RowKit Go.Proofs.Tryz
set_option maxRecDepth 100000
theorem wX(H:Type)(enc:TypeId×au->H)(W:ag)(base:Nat)(args:Array au)(i u:List (DataW H))(N:List MemPlace)(f:∀(j:Nat) t v,Tryz.f4.params[j]?=some t->args[j]?=some v->Value.okWide Tryz.prog W .any base t v)(C:DataW.Whole enc Tryz.prog Tryz.f4.params.toList Rows.topRowsSpec.vars false W args.toList i u N)(D:Rows.uptoSmall H (i++u)=true):ao 4 args W λe s=>∃v,e=.returned v/\Rows.topRowsSpec.post enc Tryz.prog Tryz.f4 false true false false W args v s:=by
 have b:=C;obtain⟨an,aS,B,T,rfl,aH,aJ⟩:=C;have A:DataW.TrodAll enc Tryz.prog W 0 (λ_=>true) true Tryz.f4.params.toList args.toList i an:=B;rw[Tryz.params4]at A f;obtain⟨J,aX,d0,aB,E,aT,aG,rfl,rfl,w,ap⟩:=trodAll_cons A;obtain⟨K,aY,d1,aD,F,aU,rfl,rfl,rfl,S,aq⟩:=trodAll_cons ap;obtain⟨L,aZ,d2,aE,G,aV,rfl,rfl,rfl,y,ar⟩:=trodAll_cons aq;obtain⟨M,a0,d3,aF,I,aW,rfl,rfl,rfl,z,av⟩:=trodAll_cons ar;obtain⟨rfl,rfl,rfl⟩:=trodAll_nil av;obtain rfl:args= #[J,K,L,M]:=by cases args;simp_all
 obtain⟨rfl,rfl⟩:=trodVars_none T;have aa:∀x∈E,x.block<W.heap.size:=λx a=>by simpa using b.lt x (by simp[a])
 have ab:∀x∈F,x.block<W.heap.size:=λx a=>by simpa using b.lt x (by simp[a])
 have ad:∀x∈G,x.block<W.heap.size:=λx a=>by simpa using b.lt x (by simp[a])
 have ae:∀x∈I,x.block<W.heap.size:=λx a=>by simpa using b.lt x (by simp[a])
 obtain⟨n,l,aj,ak,O,X,Y,Z,a1⟩:=Iw (f 0 22 J rfl rfl) w;obtain⟨room,P⟩:=okWide_int underlying3 (f 1 3 K rfl rfl);have aI:(maxLen:Nat)=9223372036854775807:=rfl;obtain⟨g,h,sa,sc,Q,aM,aL,af,ax⟩:=Cn (f 2 23 L rfl rfl) y;obtain⟨q,r,ay,az,R,aO,aN,ah,a2⟩:=Al (f 3 24 M rfl rfl) z;have U:Rows.uptoBulkAll ([d0,d1,d2,d3]++ [])<=1048576:=fP D;simp only[dQ,Rows.uptoBulkAll]at U;clear B D;have aQ:=wu (Oe g) (λaA=>by unfold Oe;omega) h;have aR:=wu (Od q) (λaA=>by unfold Od;omega) r;have am:∀c∈h,(aC (g+1) c.2).length<=2097152:=λc o=>by
  have p:=Cq (Oe g) h c o;have ai:=rZ (g+1) c.2;unfold Oe at p;unfold Oe at ax;omega
 have al:∀(k:Nat)(l:List (Hn k)),(l.map (Od k)).sum<=1048576->∀c∈l,(aC (k+1) c.2).length<=2097152:=λk l aK c o=>by
  have p:=Cq (Od k) l c o;have ai:=rZ (k+1) c.2;have aP:wt (k+1) c.2+1<=(l.map (Od k)).sum:=p;omega
 have aw:=CH n l aj ak room g h sa sc q r ay az W Z X Y (λm=>Cf n l m (by omega)) af am ah (al q r (by omega)) (by omega) (by omega);subst O P Q R;refine aw.mono λe s ⟨V,d⟩=>?_;subst V;refine⟨_,rfl,_,_,_,[],E++(F++(G++(I++ []))),[],b,?_,?_,rfl,d.frame _,λm=>by cases m⟩
 ·exact trodAll_cons_mk (shut_bool underlying4 _) trodAll_mk0
 ·exact trodAll_cons_mk (Below.trod uG (by kernel_rfl) (fP (by kernel_rfl)) w d aa) (trodAll_cons_mk (Below.trod uG (by kernel_rfl) (fP (by kernel_rfl)) S d ab) (trodAll_cons_mk (Below.trod uG (by kernel_rfl) (fP (by kernel_rfl)) y d ad) (trodAll_cons_mk (Below.trod uG (by kernel_rfl) (fP (by kernel_rfl)) z d ae) trodAll_mk0)))
theorem AN(os:Os)(j:os.Started)(H:Type)(enc:TypeId×au->H)(a:Stop.Interp):ReturnsInHanded {} Tryz.checked os 4 .any ((Rows.OpenSpec.upto Rows.topRowsSpec).pre6 enc Tryz.prog Tryz.f4 Rows.topRowsUptoRow.domain false) (((Rows.OpenSpec.upto Rows.topRowsSpec).at a).post enc Tryz.prog Tryz.f4 false true false false):=by
 refine returnsInHanded_of_cond (C:=Tryz.checked) (s:=Rows.OpenSpec.upto Rows.topRowsSpec) (k:=Rows.uptoSmall) rfl own j (by kernel_rfl) func4
  (OpenSpec.witness (enc:=enc) (C:=Tryz.checked) (s:=Rows.OpenSpec.upto Rows.topRowsSpec) (k:=Rows.uptoSmall) rfl false ⟨#[], #[ae none 0 0,ab 0,ae none 0 0,ae none 0 0],[]⟩ 8 (by kernel_rfl) (by kernel_rfl) (by kernel_rfl)
   (x:=([.nil,.lit (.int .i64 0),.nil,.nil],[],[])) (by kernel_rfl) rfl (by kernel_rfl)) ?_
 intro b c args e f d i g _ h _;exact wX H enc b c args e f d i g h
theorem trows_holds:Rows.TopRowsUptoSaid:=
 OpenClaim.holds_of_cond 4 Tryz.f4 rfl rfl rfl rfl rfl rfl rfl ⟨rfl,rfl,rfl,rfl,rfl⟩ rfl rfl rfl rfl rfl (by kernel_rfl) func4 (by kernel_rfl)
  (fP (by kernel_rfl)) (by unfold Func.isWrapper;first|(rw[if_pos (by decide+kernel)];kernel_rfl)|(rw[if_neg (by decide+kernel)];exact⟨rfl,rfl⟩))
  (λos d b c _ a=>AN os d b c a)
end Go.Proofs.YtmmahddlcldmiaaGreat
