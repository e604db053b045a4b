/- What is proved: clerktop.TopTidy returns true, and leaves its arguments as they were, for every program, room, list of starts, list of what happens and lists of when and whose: heaps that are tidied, whenever, and whosever, change nothing that is seen. Condition: the arguments together hold at most 1048576 values and letters (the statement's own second form). -/
import Derived.Test.YtmmahddlcldmiaaGreatJ36
namespace Go.Proofs.YtmmahddlcldmiaaGreat
open Go.ChangeShapes Go.WideShapes Go.ChangeAt Go.RowKit Tryz
set_option maxRecDepth 100000
theorem wj(H:Type)(enc:TypeId×av->H)(W:ag)(base:Nat)(args:Array av)(r D:List (DataW H))(ah:List MemPlace)(i:∀(j:Nat) t v,Tryz.f3.params[j]?=some t->args[j]?=some v->Value.okWide Tryz.prog W .any base t v)(M:DataW.Whole enc Tryz.prog Tryz.f3.params.toList Rows.topTidySpec.vars false W args.toList r D ah)(p:Rows.uptoSmall H (r++D)=true):am 3 args W λe A=>∃v,e=.returned v/\Rows.topTidySpec.post enc Tryz.prog Tryz.f3 false true false false W args v A:=by
 have g:=M;obtain⟨aZ,bx,L,az,rfl,bk,bo⟩:=M;have K:DataW.TrodAll enc Tryz.prog W 0 (λ_=>true) true Tryz.f3.params.toList args.toList r aZ:=L;rw[Tryz.params3]at K i;obtain⟨V,bF,ai,bb,P,bz,bj,rfl,rfl,E,a0⟩:=trodAll_cons K;obtain⟨X,bG,d1,bc,Q,bA,rfl,rfl,rfl,ay,a1⟩:=trodAll_cons a0;obtain⟨Y,bH,aj,bd,R,bB,rfl,rfl,rfl,F,a2⟩:=trodAll_cons a1;obtain⟨Z,bI,ak,be,S,bC,rfl,rfl,rfl,G,a3⟩:=trodAll_cons a2;obtain⟨aa,bJ,al,bf,T,bD,rfl,rfl,rfl,I,a4⟩:=trodAll_cons a3;obtain⟨ad,bK,an,bg,U,bE,rfl,rfl,rfl,J,a5⟩:=trodAll_cons a4;obtain⟨rfl,rfl,rfl⟩:=trodAll_nil a5;obtain rfl:args= #[V,X,Y,Z,aa,ad]:=by cases args;simp_all
 obtain⟨rfl,rfl⟩:=trodVars_none az;have aI:∀a∈P,a.block<W.heap.size:=λa d=>by simpa using g.lt a (by simp[d])
 have aJ:∀a∈Q,a.block<W.heap.size:=λa d=>by simpa using g.lt a (by simp[d])
 have aK:∀a∈R,a.block<W.heap.size:=λa d=>by simpa using g.lt a (by simp[d])
 have aL:∀a∈S,a.block<W.heap.size:=λa d=>by simpa using g.lt a (by simp[d])
 have aM:∀a∈T,a.block<W.heap.size:=λa d=>by simpa using g.lt a (by simp[d])
 have aN:∀a∈U,a.block<W.heap.size:=λa d=>by simpa using g.lt a (by simp[d])
 obtain⟨n,l,aV,aW,ao,aF,aG,aH,bL⟩:=G8 (i 0 22 V rfl rfl) E;obtain⟨room,ap⟩:=okWide_int underlying3 (i 1 3 X rfl rfl);obtain⟨af,ae,ac,au,bh,bi,aA⟩:=xK (i 4 25 aa rfl rfl) I;obtain⟨aQ,aP,aO,ax,bl,bm,aE⟩:=xK (i 5 25 ad rfl rfl) J;have bn:(maxLen:Nat)=9223372036854775807:=rfl;have N:∀{B:aw}{w:Nat},(w=0\/∃b o,B=some ⟨b,o,none⟩/\b<W.heap.size/\∀O,O<w->∃y,W.cell? ⟨b,o+O,none⟩=some (ab y))->∀k,k<w->∃C o v,B=some ⟨C,o,none⟩/\W.cell? ⟨C,o+k,none⟩=some (ab v):=λf k p=>by
  rcases f with bN|⟨b,o,e,_,f⟩
  ·omega
  ·obtain⟨y,aS⟩:=f k p;exact⟨b,o,y,e,aS⟩
 obtain⟨m,q,sa,sc,aq,br,bq,aR,a7⟩:=BO (i 2 23 Y rfl rfl) F;obtain⟨x,z,a8,a9,ar,bt,bs,aT,bM⟩:=zD (i 3 24 Z rfl rfl) G;have aB:Rows.uptoBulkAll ([ai,d1,aj,ak,al,an]++ [])<=1048576:=eQ p;simp only[eK,Rows.uptoBulkAll]at aB;clear L p;have bv:=vH (Nk m) (λba=>by unfold Nk;omega) q;have bw:=vH (Nj x) (λba=>by unfold Nj;omega) z;have aY:∀c∈q,(aC (m+1) c.2).length<=2097152:=λc s=>by
  have u:=BR (Nk m) q c s;have aU:=rI (m+1) c.2;unfold Nk at u;unfold Nk at a7;omega
 have aX:∀(k:Nat)(l:List (Hn k)),(l.map (Nj k)).sum<=1048576->∀c∈l,(aC (k+1) c.2).length<=2097152:=λk l bp c s=>by
  have u:=BR (Nj k) l c s;have aU:=rI (k+1) c.2;have bu:wt (k+1) c.2+1<=(l.map (Nj k)).sum:=u;omega
 have a6:=Cw n l aV aW room m q sa sc x z a8 a9 af ae ac aQ aP aO W aH aF aG (λf=>BG n l f (by omega)) aR aY aT (aX x z (by omega)) (by omega) (by omega) (by omega) (N aA) (N aE);subst ao ap aq ar au ax;refine a6.mono λe A ⟨aD,h⟩=>?_;subst aD;refine⟨_,rfl,_,_,_,[],P++(Q++(R++(S++(T++(U++ []))))),[],g,?_,?_,rfl,h.frame _,λf=>by cases f⟩
 ·exact trodAll_cons_mk (shut_bool underlying4 _) trodAll_mk0
 ·exact trodAll_cons_mk (Below.trod oV (by kernel_rfl) (eQ (by kernel_rfl)) E h aI) (trodAll_cons_mk (Below.trod oV (by kernel_rfl) (eQ (by kernel_rfl)) ay h aJ) (trodAll_cons_mk (Below.trod oV (by kernel_rfl) (eQ (by kernel_rfl)) F h aK) (trodAll_cons_mk (Below.trod oV (by kernel_rfl) (eQ (by kernel_rfl)) G h aL) (trodAll_cons_mk (Below.trod oV (by kernel_rfl) (eQ (by kernel_rfl)) I h aM) (trodAll_cons_mk (Below.trod oV (by kernel_rfl) (eQ (by kernel_rfl)) J h aN) trodAll_mk0)))))
theorem Ag(os:Os)(j:os.Started)(H:Type)(enc:TypeId×av->H)(a:Stop.Interp):ReturnsInHanded {} Tryz.checked os 3 .any ((Rows.OpenSpec.upto Rows.topTidySpec).pre6 enc Tryz.prog Tryz.f3 Rows.topTidyUptoRow.domain false) (((Rows.OpenSpec.upto Rows.topTidySpec).at a).post enc Tryz.prog Tryz.f3 false true false false):=by
 refine returnsInHanded_of_cond (C:=Tryz.checked) (s:=Rows.OpenSpec.upto Rows.topTidySpec) (k:=Rows.uptoSmall) rfl own j (by kernel_rfl) func3
  (OpenSpec.witness (enc:=enc) (C:=Tryz.checked) (s:=Rows.OpenSpec.upto Rows.topTidySpec) (k:=Rows.uptoSmall) rfl false ⟨#[], #[ae none 0 0,ab 0,ae none 0 0,ae none 0 0,ae none 0 0,ae none 0 0],[]⟩ 8 (by kernel_rfl) (by kernel_rfl) (by kernel_rfl)
   (x:=([.nil,.lit (.int .i64 0),.nil,.nil,.nil,.nil],[],[])) (by kernel_rfl) rfl (by kernel_rfl)) ?_
 intro b c args e f d i g _ h _;exact wj H enc b c args e f d i g h
theorem ttidy_holds:Rows.TopTidyUptoSaid:=
 OpenClaim.holds_of_cond 3 Tryz.f3 rfl rfl rfl rfl rfl rfl rfl ⟨rfl,rfl,rfl,rfl,rfl⟩ rfl rfl rfl rfl rfl (by kernel_rfl) func3 (by kernel_rfl)
  (eQ (by kernel_rfl)) (by unfold Func.isWrapper;first|(rw[if_pos (by decide+kernel)];kernel_rfl)|(rw[if_neg (by decide+kernel)];exact⟨rfl,rfl⟩))
  (λos d b c _ a=>Ag os d b c a)
end Go.Proofs.YtmmahddlcldmiaaGreat
