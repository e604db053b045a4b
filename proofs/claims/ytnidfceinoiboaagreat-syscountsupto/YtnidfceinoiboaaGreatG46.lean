/- What is proved: clerkkeep.SysCounts returns true, and leaves its arguments as they were, for every program, room, list of starts and list of what happens: each process that was is alive, or ended once; numbers are never used again; a process takes only while it is alive. Condition: the arguments together hold at most 1048576 values and letters (the statement's own second form). -/
import Derived.Test.YtnidfceinoiboaaGreatG45
namespace Go.Proofs.YtnidfceinoiboaaGreat
open Go.ChangeShapes Go.WideShapes Go.ChangeAt Go.RowKit
set_option maxRecDepth 100000
theorem qQ(H:Type)(enc:TypeId×Value->H)(W:World)(base:Nat)(args:Array Value)(m w:List (DataW H))(O:List MemPlace)(g:∀(j:Nat) t v,Tryz.f3.params[j]?=some t->args[j]?=some v->Value.okWide Tryz.prog W .any base t v)(C:DataW.Whole enc Tryz.prog Tryz.f3.params.toList Rows.sysCountsSpec.vars false W args.toList m w O)(D:Rows.uptoSmall H (m++w)=true):Calls Tryz.prog 3 args W λe u=>∃v,e=.returned v/\Rows.sysCountsSpec.post enc Tryz.prog Tryz.f3 false true false false W args v u:=by
 have d:=C;obtain⟨ar,aR,B,Y,rfl,aH,aI⟩:=C;have A:DataW.TrodAll enc Tryz.prog W 0 (λ_=>true) true Tryz.f3.params.toList args.toList m ar:=B;rw[Tryz.params3]at A g;obtain⟨J,aW,P,aC,E,aS,aG,rfl,rfl,x,au⟩:=trodAll_cons A;obtain⟨K,aX,d1,aD,F,aT,rfl,rfl,rfl,X,av⟩:=trodAll_cons au;obtain⟨L,aY,Q,aE,G,aU,rfl,rfl,rfl,y,aw⟩:=trodAll_cons av;obtain⟨M,aZ,R,aF,I,aV,rfl,rfl,rfl,z,ax⟩:=trodAll_cons aw;obtain⟨rfl,rfl,rfl⟩:=trodAll_nil ax;obtain rfl:args= #[J,K,L,M]:=by cases args;simp_all
 obtain⟨rfl,rfl⟩:=trodVars_none Y;have af:∀a∈E,a.block<W.heap.size:=λa b=>by simpa using d.lt a (by simp[b])
 have ag:∀a∈F,a.block<W.heap.size:=λa b=>by simpa using d.lt a (by simp[b])
 have ah:∀a∈G,a.block<W.heap.size:=λa b=>by simpa using d.lt a (by simp[b])
 have ai:∀a∈I,a.block<W.heap.size:=λa b=>by simpa using d.lt a (by simp[b])
 obtain⟨n,l,am,an,S,ab,ad,ae,a0⟩:=DW (g 0 22 J rfl rfl) x;obtain⟨room,T⟩:=okWide_int Tryz.underlying3 (g 1 3 K rfl rfl);obtain⟨h,i,sa,sc,U,aL,aK,aj,ay⟩:=zo (g 2 23 L rfl rfl) y;obtain⟨r,s,az,aA,V,aN,aM,ak,a1⟩:=wS (g 3 24 M rfl rfl) z;have Z:Rows.uptoBulkAll ([P,d1,Q,R]++ [])<=1048576:=eR D;simp only[ee,Rows.uptoBulkAll]at Z;clear B D;have aP:=tK (JB h) (λaB=>by unfold JB;omega) i;have aQ:=tK (JA r) (λaB=>by unfold JA;omega) s;have ap:∀c∈i,(aq (h+1) c.2).length<=2097152:=λc p=>by
  have q:=zt (JB h) i c p;have al:=pO (h+1) c.2;unfold JB at q;unfold JB at ay;omega
 have ao:∀(k:Nat)(l:List (Hn k)),(l.map (JA k)).sum<=1048576->∀c∈l,(aq (k+1) c.2).length<=2097152:=λk l aJ c p=>by
  have q:=zt (JA k) l c p;have al:=pO (k+1) c.2;have aO:wt (k+1) c.2+1<=(l.map (JA k)).sum:=q;omega
 have N:=AH n l am an room h i sa sc r s az aA W ae ab ad (λo=>zg n l o (by omega)) aj ap ak (ao r s (by omega)) (by omega) (by omega);rw[<-S,<-T,<-U,<-V]at N;refine N.mono λe u ⟨aa,f⟩=>?_;subst aa;refine⟨_,rfl,_,_,_,[],E++(F++(G++(I++ []))),[],d,?_,?_,rfl,f.frame _,λo=>by cases o⟩
 ·exact trodAll_cons_mk (shut_bool Tryz.underlying4 _) trodAll_mk0
 ·exact trodAll_cons_mk (Below.trod r9 (by kernel_rfl) (eR (by kernel_rfl)) x f af) (trodAll_cons_mk (Below.trod r9 (by kernel_rfl) (eR (by kernel_rfl)) X f ag) (trodAll_cons_mk (Below.trod r9 (by kernel_rfl) (eR (by kernel_rfl)) y f ah) (trodAll_cons_mk (Below.trod r9 (by kernel_rfl) (eR (by kernel_rfl)) z f ai) trodAll_mk0)))
theorem tW(os:Os)(j:os.Started)(H:Type)(enc:TypeId×Value->H)(a:Stop.Interp):ReturnsInHanded {} Tryz.checked os 3 .any ((Rows.OpenSpec.upto Rows.sysCountsSpec).pre6 enc Tryz.prog Tryz.f3 Rows.sysCountsUptoRow.domain false) (((Rows.OpenSpec.upto Rows.sysCountsSpec).at a).post enc Tryz.prog Tryz.f3 false true false false):=by
 refine returnsInHanded_of_cond (C:=Tryz.checked) (s:=Rows.OpenSpec.upto Rows.sysCountsSpec) (k:=Rows.uptoSmall) rfl own j (by kernel_rfl) Tryz.func3
  (OpenSpec.witness (enc:=enc) (C:=Tryz.checked) (s:=Rows.OpenSpec.upto Rows.sysCountsSpec) (k:=Rows.uptoSmall) rfl false ⟨#[], #[.slice none 0 0,.int .i64 0,.slice none 0 0,.slice none 0 0],[]⟩ 8 (by kernel_rfl) (by kernel_rfl) (by kernel_rfl)
   (x:=([.nil,.lit (.int .i64 0),.nil,.nil],[],[])) (by kernel_rfl) rfl (by kernel_rfl)) ?_
 intro b c args e f d i g _ h _;exact qQ H enc b c args e f d i g h
theorem scounts_holds:Rows.SysCountsUptoSaid:=
 OpenClaim.holds_of_cond 3 Tryz.f3 rfl rfl rfl rfl rfl rfl rfl ⟨rfl,rfl,rfl,rfl,rfl⟩ rfl rfl rfl rfl rfl (by kernel_rfl) Tryz.func3 (by kernel_rfl)
  (eR (by kernel_rfl)) (by unfold Func.isWrapper;first|(rw[if_pos (by decide+kernel)];kernel_rfl)|(rw[if_neg (by decide+kernel)];exact⟨rfl,rfl⟩))
  (λos d b c _ a=>tW os d b c a)
end Go.Proofs.YtnidfceinoiboaaGreat
