/- What is proved: clerktop.TopApart returns true, and leaves its arguments as they were, for every program, room, list of starts, list of what happens and number: who is not spoken to, not run, and not linked with, stays as it was. Condition: the arguments together hold at most 1048576 values and letters (the statement's own second form). -/
import Derived.Test.YtckamaoibonjcaaGreatH45
namespace Go.Proofs.YtckamaoibonjcaaGreat
open Go.ChangeShapes Go.WideShapes Go.ChangeAt Go.RowKit
set_option maxRecDepth 100000
theorem s9(H:Type)(enc:TypeId×Value->H)(W:World)(base:Nat)(args:Array Value)(m w:List (DataW H))(P:List MemPlace)(g:∀(j:Nat) t v,Tryz.f4.params[j]?=some t->args[j]?=some v->Value.okWide Tryz.prog W .any base t v)(C:DataW.Whole enc Tryz.prog Tryz.f4.params.toList Rows.topApartSpec.vars false W args.toList m w P)(D:Rows.uptoSmall H (m++w)=true):ak 4 args W λe u=>∃v,e=.returned v/\Rows.topApartSpec.post enc Tryz.prog Tryz.f4 false true false false W args v u:=by
 have d:=C;obtain⟨az,a1,B,ad,rfl,aR,aS⟩:=C;have A:DataW.TrodAll enc Tryz.prog W 0 (λ_=>true) true Tryz.f4.params.toList args.toList m az:=B;rw[Tryz.params4]at A g;obtain⟨K,a7,Q,aL,E,a2,aQ,rfl,rfl,x,aA⟩:=trodAll_cons A;obtain⟨L,a8,d1,aM,F,a3,rfl,rfl,rfl,aa,aB⟩:=trodAll_cons aA;obtain⟨M,a9,R,aN,G,a4,rfl,rfl,rfl,y,aC⟩:=trodAll_cons aB;obtain⟨N,ba,S,aO,I,a5,rfl,rfl,rfl,z,aD⟩:=trodAll_cons aC;obtain⟨O,bb,T,aP,J,a6,rfl,rfl,rfl,ab,aE⟩:=trodAll_cons aD;obtain⟨rfl,rfl,rfl⟩:=trodAll_nil aE;obtain rfl:args= #[K,L,M,N,O]:=by cases args;simp_all
 obtain⟨rfl,rfl⟩:=trodVars_none ad;have aj:∀a∈E,a.block<W.heap.size:=λa b=>by simpa using d.lt a (by simp[b])
 have al:∀a∈F,a.block<W.heap.size:=λa b=>by simpa using d.lt a (by simp[b])
 have am:∀a∈G,a.block<W.heap.size:=λa b=>by simpa using d.lt a (by simp[b])
 have an:∀a∈I,a.block<W.heap.size:=λa b=>by simpa using d.lt a (by simp[b])
 have ao:∀a∈J,a.block<W.heap.size:=λa b=>by simpa using d.lt a (by simp[b])
 obtain⟨n,l,au,aw,U,ag,ah,ai,bc⟩:=FX (g 0 22 K rfl rfl) x;obtain⟨room,V⟩:=okWide_int Tryz.underlying3 (g 1 3 L rfl rfl);obtain⟨aG,Z⟩:=okWide_int Tryz.underlying3 (g 4 3 O rfl rfl);obtain⟨h,i,sa,sc,X,aV,aU,ap,aH⟩:=AN (g 2 23 M rfl rfl) y;obtain⟨r,s,aI,aJ,Y,aX,aW,aq,bd⟩:=yn (g 3 24 N rfl rfl) z;have ae:Rows.uptoBulkAll ([Q,d1,R,S,T]++ [])<=1048576:=eN D;simp only[ed,Rows.uptoBulkAll]at ae;clear B D;have aZ:=uM (LV h) (λaK=>by unfold LV;omega) i;have a0:=uM (LU r) (λaK=>by unfold LU;omega) s;have ay:∀c∈i,(av (h+1) c.2).length<=2097152:=λc p=>by
  have q:=AQ (LV h) i c p;have ar:=qE (h+1) c.2;unfold LV at q;unfold LV at aH;omega
 have ax:∀(k:Nat)(l:List (Hn k)),(l.map (LU k)).sum<=1048576->∀c∈l,(av (k+1) c.2).length<=2097152:=λk l aT c p=>by
  have q:=AQ (LU k) l c p;have ar:=qE (k+1) c.2;have aY:wt (k+1) c.2+1<=(l.map (LU k)).sum:=q;omega
 have aF:=EL n l au aw room h i sa sc r s aI aJ aG W ai ag ah (λo=>AG n l o (by omega)) ap ay aq (ax r s (by omega)) (by omega) (by omega);subst U V X Y Z;refine aF.mono λe u ⟨af,f⟩=>?_;subst af;refine⟨_,rfl,_,_,_,[],E++(F++(G++(I++(J++ [])))),[],d,?_,?_,rfl,f.frame _,λo=>by cases o⟩
 ·exact trodAll_cons_mk (shut_bool Tryz.underlying4 _) trodAll_mk0
 ·exact trodAll_cons_mk (Below.trod qy (by kernel_rfl) (eN (by kernel_rfl)) x f aj) (trodAll_cons_mk (Below.trod qy (by kernel_rfl) (eN (by kernel_rfl)) aa f al) (trodAll_cons_mk (Below.trod qy (by kernel_rfl) (eN (by kernel_rfl)) y f am) (trodAll_cons_mk (Below.trod qy (by kernel_rfl) (eN (by kernel_rfl)) z f an) (trodAll_cons_mk (Below.trod qy (by kernel_rfl) (eN (by kernel_rfl)) ab f ao) trodAll_mk0))))
theorem vG(os:Os)(j:os.Started)(H:Type)(enc:TypeId×Value->H)(a:Stop.Interp):ReturnsInHanded {} Tryz.checked os 4 .any ((Rows.OpenSpec.upto Rows.topApartSpec).pre6 enc Tryz.prog Tryz.f4 Rows.topApartUptoRow.domain false) (((Rows.OpenSpec.upto Rows.topApartSpec).at a).post enc Tryz.prog Tryz.f4 false true false false):=by
 refine returnsInHanded_of_cond (C:=Tryz.checked) (s:=Rows.OpenSpec.upto Rows.topApartSpec) (k:=Rows.uptoSmall) rfl own j (by kernel_rfl) Tryz.func4
  (OpenSpec.witness (enc:=enc) (C:=Tryz.checked) (s:=Rows.OpenSpec.upto Rows.topApartSpec) (k:=Rows.uptoSmall) rfl false ⟨#[], #[.slice none 0 0,ab 0,.slice none 0 0,.slice none 0 0,ab 0],[]⟩ 8 (by kernel_rfl) (by kernel_rfl) (by kernel_rfl)
   (x:=([.nil,.lit (.int .i64 0),.nil,.nil,.lit (.int .i64 0)],[],[])) (by kernel_rfl) rfl (by kernel_rfl)) ?_
 intro b c args e f d i g _ h _;exact s9 H enc b c args e f d i g h
theorem tapart_holds:Rows.TopApartUptoSaid:=
 OpenClaim.holds_of_cond 4 Tryz.f4 rfl rfl rfl rfl rfl rfl rfl ⟨rfl,rfl,rfl,rfl,rfl⟩ rfl rfl rfl rfl rfl (by kernel_rfl) Tryz.func4 (by kernel_rfl)
  (eN (by kernel_rfl)) (by unfold Func.isWrapper;first|(rw[if_pos (by decide+kernel)];kernel_rfl)|(rw[if_neg (by decide+kernel)];exact⟨rfl,rfl⟩))
  (λos d b c _ a=>vG os d b c a)
end Go.Proofs.YtckamaoibonjcaaGreat
