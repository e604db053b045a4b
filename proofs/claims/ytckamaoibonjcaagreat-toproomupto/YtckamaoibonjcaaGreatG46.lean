/- What is proved: clerktop.TopRoom returns true, and leaves its arguments as they were, for every program, list of starts and list of what happens: where each heap has room for a thousand words, and none gets a message while three wait, none ends because it is full. Condition: the arguments together hold at most 1048576 values and letters (the statement's own second form). -/
import Derived.Test.YtckamaoibonjcaaGreatG45
namespace Go.Proofs.YtckamaoibonjcaaGreat
open Go.ChangeShapes Go.WideShapes Go.ChangeAt Go.RowKit
set_option maxRecDepth 100000
theorem uQ(H:Type)(enc:TypeId×Value->H)(W:World)(base:Nat)(args:Array Value)(m w:List (DataW H))(M:List MemPlace)(h:∀(j:Nat) t v,Tryz.f3.params[j]?=some t->args[j]?=some v->Value.okWide Tryz.prog W .any base t v)(C:DataW.Whole enc Tryz.prog Tryz.f3.params.toList Rows.topRoomSpec.vars false W args.toList m w M)(D:Rows.uptoSmall H (m++w)=true):ah 3 args W λe u=>∃v,e=.returned v/\Rows.topRoomSpec.post enc Tryz.prog Tryz.f3 false true false false W args v u:=by
 have f:=C;obtain⟨al,aK,B,S,rfl,aA,aB⟩:=C;have A:DataW.TrodAll enc Tryz.prog W 0 (λ_=>true) true Tryz.f3.params.toList args.toList m al:=B;rw[Tryz.params3]at A h;obtain⟨I,aO,N,aw,E,aL,az,rfl,rfl,x,am⟩:=trodAll_cons A;obtain⟨J,aP,d1,ax,F,aM,rfl,rfl,rfl,y,an⟩:=trodAll_cons am;obtain⟨K,aQ,O,ay,G,aN,rfl,rfl,rfl,z,ao⟩:=trodAll_cons an;obtain⟨rfl,rfl,rfl⟩:=trodAll_nil ao;obtain rfl:args= #[I,J,K]:=by cases args;simp_all
 obtain⟨rfl,rfl⟩:=trodVars_none S;have Z:∀a∈E,a.block<W.heap.size:=λa b=>by simpa using f.lt a (by simp[b])
 have aa:∀a∈F,a.block<W.heap.size:=λa b=>by simpa using f.lt a (by simp[b])
 have ab:∀a∈G,a.block<W.heap.size:=λa b=>by simpa using f.lt a (by simp[b])
 obtain⟨n,l,ag,ai,P,V,X,Y,aR⟩:=FG (h 0 22 I rfl rfl) x;obtain⟨d,i,sa,sc,Q,aE,aD,ad,ap⟩:=AF (h 1 23 J rfl rfl) y;obtain⟨r,s,aq,au,R,aG,aF,ae,aS⟩:=xY (h 2 24 K rfl rfl) z;have T:Rows.uptoBulkAll ([N,d1,O]++ [])<=1048576:=fD D;simp only[dY,Rows.uptoBulkAll]at T;clear B D;have aI:=uz (Lx d) (λav=>by unfold Lx;omega) i;have aJ:=uz (Lw r) (λav=>by unfold Lw;omega) s;have ak:∀c∈i,(ar (d+1) c.2).length<=2097152:=λc p=>by
  have q:=AI (Lx d) i c p;have af:=qy (d+1) c.2;unfold Lx at q;unfold Lx at ap;omega
 have aj:∀(k:Nat)(l:List (Hn k)),(l.map (Lw k)).sum<=1048576->∀c∈l,(ar (k+1) c.2).length<=2097152:=λk l aC c p=>by
  have q:=AI (Lw k) l c p;have af:=qy (k+1) c.2;have aH:wt (k+1) c.2+1<=(l.map (Lw k)).sum:=q;omega
 have L:=I4 n l ag ai d i sa sc r s aq au W Y V X (λo=>Ay n l o (by omega)) ad ak ae (aj r s (by omega)) (by omega) (by omega);rw[<-P,<-Q,<-R]at L;refine L.mono λe u ⟨U,g⟩=>?_;subst U;refine⟨_,rfl,_,_,_,[],E++(F++(G++ [])),[],f,?_,?_,rfl,g.frame _,λo=>by cases o⟩
 ·exact trodAll_cons_mk (shut_bool Tryz.underlying4 _) trodAll_mk0
 ·exact trodAll_cons_mk (Below.trod xN (by kernel_rfl) (fD (by kernel_rfl)) x g Z) (trodAll_cons_mk (Below.trod xN (by kernel_rfl) (fD (by kernel_rfl)) y g aa) (trodAll_cons_mk (Below.trod xN (by kernel_rfl) (fD (by kernel_rfl)) z g ab) trodAll_mk0))
theorem yG(os:Os)(j:os.Started)(H:Type)(enc:TypeId×Value->H)(a:Stop.Interp):ReturnsInHanded {} Tryz.checked os 3 .any ((Rows.OpenSpec.upto Rows.topRoomSpec).pre6 enc Tryz.prog Tryz.f3 Rows.topRoomUptoRow.domain false) (((Rows.OpenSpec.upto Rows.topRoomSpec).at a).post enc Tryz.prog Tryz.f3 false true false false):=by
 refine returnsInHanded_of_cond (C:=Tryz.checked) (s:=Rows.OpenSpec.upto Rows.topRoomSpec) (k:=Rows.uptoSmall) rfl own j (by kernel_rfl) Tryz.func3
  (OpenSpec.witness (enc:=enc) (C:=Tryz.checked) (s:=Rows.OpenSpec.upto Rows.topRoomSpec) (k:=Rows.uptoSmall) rfl false ⟨#[], #[.slice none 0 0,.slice none 0 0,.slice none 0 0],[]⟩ 8 (by kernel_rfl) (by kernel_rfl) (by kernel_rfl)
   (x:=([.nil,.nil,.nil],[],[])) (by kernel_rfl) rfl (by kernel_rfl)) ?_
 intro b c args e f d i g _ h _;exact uQ H enc b c args e f d i g h
theorem troom_holds:Rows.TopRoomUptoSaid:=
 OpenClaim.holds_of_cond 3 Tryz.f3 rfl rfl rfl rfl rfl rfl rfl ⟨rfl,rfl,rfl,rfl,rfl⟩ rfl rfl rfl rfl rfl (by kernel_rfl) Tryz.func3 (by kernel_rfl)
  (fD (by kernel_rfl)) (by unfold Func.isWrapper;first|(rw[if_pos (by decide+kernel)];kernel_rfl)|(rw[if_neg (by decide+kernel)];exact⟨rfl,rfl⟩))
  (λos d b c _ a=>yG os d b c a)
end Go.Proofs.YtckamaoibonjcaaGreat
