/- What is proved: clerktop.TopTidy returns true, and leaves its arguments as they were, for every program, room, list of starts, list of what happens and lists of when and whose: heaps that are tidied, whenever, and whosever, change nothing that is seen. Condition: the arguments together hold at most 1048576 values and letters (the statement's own second form). -/
import Derived.Test.YtmmahddlcldmiaaGreatJ35
namespace Go.Proofs.YtmmahddlcldmiaaGreat
open Go.ChangeShapes Go.WideShapes Go.ChangeAt Go.RowKit Go.Proofs.Tryz
set_option maxRecDepth 100000
theorem wb(H:Type)(enc:TypeId×Value->H)(W:World)(base:Nat)(args:Array Value)(r D:List (DataW H))(ag:List MemPlace)(i:∀(j:Nat) t v,Tryz.f3.params[j]?=some t->args[j]?=some v->Value.okWide Tryz.prog W .any base t v)(M:DataW.Whole enc Tryz.prog Tryz.f3.params.toList Rows.topTidySpec.vars false W args.toList r D ag)(p:Rows.uptoSmall H (r++D)=true):ak 3 args W λe A=>∃v,e=.returned v/\Rows.topTidySpec.post enc Tryz.prog Tryz.f3 false true false false W args v A:=by
 have g:=M;obtain⟨aR,bp,L,ap,rfl,bc,bg⟩:=M;have K:DataW.TrodAll enc Tryz.prog W 0 (λ_=>true) true Tryz.f3.params.toList args.toList r aR:=L;rw[Tryz.params3]at K i;obtain⟨V,bw,d0,a3,P,bq,bb,rfl,rfl,E,aS⟩:=trodAll_cons K;obtain⟨X,bx,d1,a4,Q,br,rfl,rfl,rfl,ao,aT⟩:=trodAll_cons aS;obtain⟨Y,bz,d2,a5,R,bs,rfl,rfl,rfl,F,aU⟩:=trodAll_cons aT;obtain⟨Z,bA,d3,a6,S,bt,rfl,rfl,rfl,G,aV⟩:=trodAll_cons aU;obtain⟨aa,bB,d4,a7,T,bu,rfl,rfl,rfl,I,aW⟩:=trodAll_cons aV;obtain⟨ad,bC,d5,a8,U,bv,rfl,rfl,rfl,J,aX⟩:=trodAll_cons aW;obtain⟨rfl,rfl,rfl⟩:=trodAll_nil aX;obtain rfl:args= #[V,X,Y,Z,aa,ad]:=by cases args;simp_all
 obtain⟨rfl,rfl⟩:=trodVars_none ap;have aA:∀a∈P,a.block<W.heap.size:=λa d=>by simpa using g.lt a (by simp[d])
 have aB:∀a∈Q,a.block<W.heap.size:=λa d=>by simpa using g.lt a (by simp[d])
 have aC:∀a∈R,a.block<W.heap.size:=λa d=>by simpa using g.lt a (by simp[d])
 have aD:∀a∈S,a.block<W.heap.size:=λa d=>by simpa using g.lt a (by simp[d])
 have aE:∀a∈T,a.block<W.heap.size:=λa d=>by simpa using g.lt a (by simp[d])
 have aF:∀a∈U,a.block<W.heap.size:=λa d=>by simpa using g.lt a (by simp[d])
 obtain⟨n,l,aN,aO,ah,aw,ax,az,bD⟩:=G3 (i 0 22 V rfl rfl) E;obtain⟨room,ai⟩:=okWide_int underlying3 (i 1 3 X rfl rfl);obtain⟨af,ae,ac,am,a9,ba,aq⟩:=xE (i 4 25 aa rfl rfl) I;obtain⟨aI,aH,aG,an,bd,be,av⟩:=xE (i 5 25 ad rfl rfl) J;have bf:(maxLen:Nat)=9223372036854775807:=rfl;have N:∀{B:Option Addr}{w:Nat},(w=0\/∃b o,B=some ⟨b,o,none⟩/\b<W.heap.size/\∀O,O<w->∃y,W.cell? ⟨b,o+O,none⟩=some (ab y))->∀k,k<w->∃C o v,B=some ⟨C,o,none⟩/\W.cell? ⟨C,o+k,none⟩=some (ab v):=λf k p=>by
  rcases f with bF|⟨b,o,e,_,f⟩
  ·omega
  ·obtain⟨y,aK⟩:=f k p;exact⟨b,o,y,e,aK⟩
 obtain⟨m,q,sa,sc,aj,bj,bi,aJ,aZ⟩:=BI (i 2 23 Y rfl rfl) F;obtain⟨x,z,a0,a1,al,bl,bk,aL,bE⟩:=zw (i 3 24 Z rfl rfl) G;have ar:Rows.uptoBulkAll ([d0,d1,d2,d3,d4,d5]++ [])<=1048576:=eL p;simp only[eF,Rows.uptoBulkAll]at ar;clear L p;have bn:=vC (Nf m) (λa2=>by unfold Nf;omega) q;have bo:=vC (Nc x) (λa2=>by unfold Nc;omega) z;have aQ:∀c∈q,(ay (m+1) c.2).length<=2097152:=λc s=>by
  have u:=BM (Nf m) q c s;have aM:=rD (m+1) c.2;unfold Nf at u;unfold Nf at aZ;omega
 have aP:∀(k:Nat)(l:List (Hn k)),(l.map (Nc k)).sum<=1048576->∀c∈l,(ay (k+1) c.2).length<=2097152:=λk l bh c s=>by
  have u:=BM (Nc k) l c s;have aM:=rD (k+1) c.2;have bm:wt (k+1) c.2+1<=(l.map (Nc k)).sum:=u;omega
 have aY:=Cr n l aN aO room m q sa sc x z a0 a1 af ae ac aI aH aG W az aw ax (λf=>BB n l f (by omega)) aJ aQ aL (aP x z (by omega)) (by omega) (by omega) (by omega) (N aq) (N av);subst ah ai aj al am an;refine aY.mono λe A ⟨au,h⟩=>?_;subst au;refine⟨_,rfl,_,_,_,[],P++(Q++(R++(S++(T++(U++ []))))),[],g,?_,?_,rfl,h.frame _,λf=>by cases f⟩
 ·exact trodAll_cons_mk (shut_bool underlying4 _) trodAll_mk0
 ·exact trodAll_cons_mk (Below.trod oQ (by kernel_rfl) (eL (by kernel_rfl)) E h aA) (trodAll_cons_mk (Below.trod oQ (by kernel_rfl) (eL (by kernel_rfl)) ao h aB) (trodAll_cons_mk (Below.trod oQ (by kernel_rfl) (eL (by kernel_rfl)) F h aC) (trodAll_cons_mk (Below.trod oQ (by kernel_rfl) (eL (by kernel_rfl)) G h aD) (trodAll_cons_mk (Below.trod oQ (by kernel_rfl) (eL (by kernel_rfl)) I h aE) (trodAll_cons_mk (Below.trod oQ (by kernel_rfl) (eL (by kernel_rfl)) J h aF) trodAll_mk0)))))
theorem Aa(os:Os)(j:os.Started)(H:Type)(enc:TypeId×Value->H)(a:Stop.Interp):ReturnsInHanded {} Tryz.checked os 3 .any ((Rows.OpenSpec.upto Rows.topTidySpec).pre6 enc Tryz.prog Tryz.f3 Rows.topTidyUptoRow.domain false) (((Rows.OpenSpec.upto Rows.topTidySpec).at a).post enc Tryz.prog Tryz.f3 false true false false):=by
 refine returnsInHanded_of_cond (C:=Tryz.checked) (s:=Rows.OpenSpec.upto Rows.topTidySpec) (k:=Rows.uptoSmall) rfl own j (by kernel_rfl) func3
  (OpenSpec.witness (enc:=enc) (C:=Tryz.checked) (s:=Rows.OpenSpec.upto Rows.topTidySpec) (k:=Rows.uptoSmall) rfl false ⟨#[], #[ae none 0 0,ab 0,ae none 0 0,ae none 0 0,ae none 0 0,ae none 0 0],[]⟩ 8 (by kernel_rfl) (by kernel_rfl) (by kernel_rfl)
   (x:=([.nil,.lit (.int .i64 0),.nil,.nil,.nil,.nil],[],[])) (by kernel_rfl) rfl (by kernel_rfl)) ?_
 intro b c args e f d i g _ h _;exact wb H enc b c args e f d i g h
theorem ttidy_holds:Rows.TopTidyUptoSaid:=
 OpenClaim.holds_of_cond 3 Tryz.f3 rfl rfl rfl rfl rfl rfl rfl ⟨rfl,rfl,rfl,rfl,rfl⟩ rfl rfl rfl rfl rfl (by kernel_rfl) func3 (by kernel_rfl)
  (eL (by kernel_rfl)) (by unfold Func.isWrapper;first|(rw[if_pos (by decide+kernel)];kernel_rfl)|(rw[if_neg (by decide+kernel)];exact⟨rfl,rfl⟩))
  (λos d b c _ a=>Aa os d b c a)
end Go.Proofs.YtmmahddlcldmiaaGreat
