/- What is proved: clerkkeep.SysHead returns true, and leaves its arguments as they were, for every program, room, list of starts and lists of what happens: what happens later changes nothing of the events that were. Condition: the arguments together hold at most 1048576 values and letters (the statement's own second form). -/
import Derived.Test.YtmbjgiaebneodaaGreatG43
namespace Go.Proofs.YtmbjgiaebneodaaGreat
open Go.ChangeShapes Go.WideShapes Go.ChangeAt Go.RowKit
set_option maxRecDepth 100000
theorem tG(H:Type)(enc:TypeId×Value->H)(W:World)(base:Nat)(args:Array Value)(m y:List (DataW H))(V:List MemPlace)(g:∀(j:Nat) t v,Tryz.f3.params[j]?=some t->args[j]?=some v->Value.okWide Tryz.prog W .any base t v)(F:DataW.Whole enc Tryz.prog Tryz.f3.params.toList Rows.sysHeadSpec.vars false W args.toList m y V)(G:Rows.uptoSmall H (m++y)=true):Calls Tryz.prog 3 args W λe x=>∃v,e=.returned v/\Rows.sysHeadSpec.post enc Tryz.prog Tryz.f3 false true false false W args v x:=by
 have d:=F;obtain⟨aF,a7,E,ai,rfl,aU,aX⟩:=F;have D:DataW.TrodAll enc Tryz.prog W 0 (λ_=>true) true Tryz.f3.params.toList args.toList m aF:=E;rw[Tryz.params3]at D g;obtain⟨O,bd,X,aO,J,a8,aT,rfl,rfl,z,aG⟩:=trodAll_cons D;obtain⟨P,be,d1,aP,K,a9,rfl,rfl,rfl,ah,aH⟩:=trodAll_cons aG;obtain⟨Q,bf,Y,aQ,L,ba,rfl,rfl,rfl,A,aI⟩:=trodAll_cons aH;obtain⟨R,bg,Z,aR,M,bb,rfl,rfl,rfl,B,aJ⟩:=trodAll_cons aI;obtain⟨S,bh,aa,aS,N,bc,rfl,rfl,rfl,C,aK⟩:=trodAll_cons aJ;obtain⟨rfl,rfl,rfl⟩:=trodAll_nil aK;obtain rfl:args= #[O,P,Q,R,S]:=by cases args;simp_all
 obtain⟨rfl,rfl⟩:=trodVars_none ai;have ao:∀a∈J,a.block<W.heap.size:=λa b=>by simpa using d.lt a (by simp[b])
 have aq:∀a∈K,a.block<W.heap.size:=λa b=>by simpa using d.lt a (by simp[b])
 have ar:∀a∈L,a.block<W.heap.size:=λa b=>by simpa using d.lt a (by simp[b])
 have au:∀a∈M,a.block<W.heap.size:=λa b=>by simpa using d.lt a (by simp[b])
 have av:∀a∈N,a.block<W.heap.size:=λa b=>by simpa using d.lt a (by simp[b])
 obtain⟨n,l,aA,aB,ab,al,am,an,bi⟩:=DF (g 0 22 O rfl rfl) z;obtain⟨room,ad⟩:=okWide_int Tryz.underlying3 (g 1 3 P rfl rfl);obtain⟨h,i,sa,sc,ae,a0,aZ,ax,aL⟩:=yQ (g 2 23 Q rfl rfl) A;obtain⟨s,w,aM,aN,af,a2,a1,ay,bk⟩:=pI (g 3 24 R rfl rfl) B;obtain⟨u,r,aC,aD,ag,aW,aV,aw,bj⟩:=pI (g 4 24 S rfl rfl) C;have aj:Rows.uptoBulkAll ([X,d1,Y,Z,aa]++ [])<=1048576:=eE G;simp only[dL,Rows.uptoBulkAll]at aj;clear E G;have a5:=pJ (Jd h) (λU=>by unfold Jd;omega) i;have a6:=pJ (GY s) (λU=>by unfold GY;omega) w;have a4:=pJ (GY u) (λU=>by unfold GY;omega) r;have aE:∀c∈i,(ap (h+1) c.2).length<=2097152:=λc p=>by
  have q:=yT (Jd h) i c p;have az:=pE (h+1) c.2;unfold Jd at q;unfold Jd at aL;omega
 have I:∀(k:Nat)(l:List (Hn k)),(l.map (GY k)).sum<=1048576->∀c∈l,(ap (k+1) c.2).length<=2097152:=λk l aY c p=>by
  have q:=yT (GY k) l c p;have az:=pE (k+1) c.2;have a3:wt (k+1) c.2+1<=(l.map (GY k)).sum:=q;omega
 have T:=Fu n l aA aB room h i sa sc s w aM aN u r aC aD W an al am (λo=>yI n l o (by omega)) ax aE ay (I s w (by omega)) aw (I u r (by omega)) (by omega) (by omega) (by omega);rw[<-ab,<-ad,<-ae,<-af,<-ag]at T;refine T.mono λe x ⟨ak,f⟩=>?_;subst ak;refine⟨_,rfl,_,_,_,[],J++(K++(L++(M++(N++ [])))),[],d,?_,?_,rfl,f.frame _,λo=>by cases o⟩
 ·exact trodAll_cons_mk (shut_bool Tryz.underlying4 _) trodAll_mk0
 ·exact trodAll_cons_mk (Below.trod pw (by kernel_rfl) (eE (by kernel_rfl)) z f ao) (trodAll_cons_mk (Below.trod pw (by kernel_rfl) (eE (by kernel_rfl)) ah f aq) (trodAll_cons_mk (Below.trod pw (by kernel_rfl) (eE (by kernel_rfl)) A f ar) (trodAll_cons_mk (Below.trod pw (by kernel_rfl) (eE (by kernel_rfl)) B f au) (trodAll_cons_mk (Below.trod pw (by kernel_rfl) (eE (by kernel_rfl)) C f av) trodAll_mk0))))
theorem wS(os:Os)(j:os.Started)(H:Type)(enc:TypeId×Value->H)(a:Stop.Interp):ReturnsInHanded {} Tryz.checked os 3 .any ((Rows.OpenSpec.upto Rows.sysHeadSpec).pre6 enc Tryz.prog Tryz.f3 Rows.sysHeadUptoRow.domain false) (((Rows.OpenSpec.upto Rows.sysHeadSpec).at a).post enc Tryz.prog Tryz.f3 false true false false):=by
 refine returnsInHanded_of_cond (C:=Tryz.checked) (s:=Rows.OpenSpec.upto Rows.sysHeadSpec) (k:=Rows.uptoSmall) rfl own j (by kernel_rfl) Tryz.func3
  (OpenSpec.witness (enc:=enc) (C:=Tryz.checked) (s:=Rows.OpenSpec.upto Rows.sysHeadSpec) (k:=Rows.uptoSmall) rfl false ⟨#[], #[.slice none 0 0,.int .i64 0,.slice none 0 0,.slice none 0 0,.slice none 0 0],[]⟩ 8 (by kernel_rfl) (by kernel_rfl) (by kernel_rfl)
   (x:=([.nil,.lit (.int .i64 0),.nil,.nil,.nil],[],[])) (by kernel_rfl) rfl (by kernel_rfl)) ?_
 intro b c args e f d i g _ h _;exact tG H enc b c args e f d i g h
theorem shead_holds:Rows.SysHeadUptoSaid:=
 OpenClaim.holds_of_cond 3 Tryz.f3 rfl rfl rfl rfl rfl rfl rfl ⟨rfl,rfl,rfl,rfl,rfl⟩ rfl rfl rfl rfl rfl (by kernel_rfl) Tryz.func3 (by kernel_rfl)
  (eE (by kernel_rfl)) (by unfold Func.isWrapper;first|(rw[if_pos (by decide+kernel)];kernel_rfl)|(rw[if_neg (by decide+kernel)];exact⟨rfl,rfl⟩))
  (λos d b c _ a=>wS os d b c a)
end Go.Proofs.YtmbjgiaebneodaaGreat
