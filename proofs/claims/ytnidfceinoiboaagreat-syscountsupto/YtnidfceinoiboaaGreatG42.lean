/- What is proved here: plain facts and contracts that the claimed theorem stands on. No condition but those that each names. -/
import Derived.Test.YtnidfceinoiboaaGreatG40
import Derived.Test.YtnidfceinoiboaaGreatG41
import Derived.Shelf.SortM.Plain
import Derived.Shelf.SortM.SortNone
namespace Go.Proofs.YtnidfceinoiboaaGreat
open Go.RowKit Go.Maps Go.Sort Go.Shelf
set_option maxRecDepth 100000
set_option maxHeartbeats 1000000
theorem IN{k:Type}{f:k->Value}{w:World}{j:Nat}{l:List (Int×k)}(n:qk f w j l)(r:∀p∈l,(Lit.int .i64 p.1).wf=true)(z:l.length<=maxLen):∃D:DataW Value,w.ownsMap Tryz.prog 3 pW j l.length D/\(intKeys D).Perm (l.map (·.1))/\Maps.size D=l.length:=by
 obtain⟨es,m,o,e,q⟩:=n;have i:∀a∈es.toList,∃b,a.key=.int .i64 b/\WideElems.rd Tryz.prog 3 pW a=some (.int .i64 b,.held a.val):=λa d=>by
  have u:(a.key,a.val)∈l.map λp=>(Value.int .i64 p.1,f p.2):=e▸cC.2 ⟨a,d,rfl⟩;obtain⟨p,s,c⟩:=cC.1 u;have g:a.key=.int .i64 p.1:=(congrArg Prod.fst c).symm;refine⟨p.1,g,?_⟩;unfold WideElems.rd;rw[g,keyOf_int_mk Tryz.underlying3 (r p s)];rfl
 have t:es.size=l.length:=by
  have:=congrArg List.length e;simpa using this
 refine⟨_,⟨es,m,o,⟨by omega,q,λa d=>?_⟩,by omega,rfl⟩,?_,?_⟩
 ·obtain⟨b,_,c⟩:=i a d;exact⟨_,c⟩
 ·have c:es.toList.map (λa=>Go.intOf (WideElems.rg Tryz.prog 3 pW a).1)=l.map (·.1):=by
    have h:=congrArg (List.map λy:Value×Value=>match y.1 with| .int _ b=>b|_=>0) e;rw[fu,fu]at h;refine(iT λa d=>?_).trans (h.trans (iT λp _=>rfl));obtain⟨b,v,x⟩:=i a d;rw[WideElems.rg_of x];simp only[Function.comp,v,Go.intOf]
  rw[<-c];have:=(WideShapes.sorted_perm (es.toList.map (WideElems.rg Tryz.prog 3 pW))).map λp=>Go.intOf p.1;rw[fu]at this;exact this
 ·rw[<-t];simpa [Maps.size]using (WideShapes.sorted_perm (es.toList.map (WideElems.rg Tryz.prog 3 (pW)))).length_eq
theorem KH(m:Nat):AnyZI.SortsIn Tryz.prog Tryz.sortedA_ren Fence.wide m:=
 ⟨λb off cap g a c d e=>callsIn_wide.2 (AnyM.slices_Sort_int Tryz.sortA b off cap g a c d e),λf cap a=>callsIn_wide.2 (AnyM.slices_Sort_int_none Tryz.sortA f cap a)⟩
theorem sF(g:Nat)(f:Option Nat)(w:World)(S:List Int->Prop)(N:Nat)(m:w.cell? ⟨g,3,none⟩=some (.map f))(o:N<=1000)(l:SeqGives Fence.wide 2 Tryz.prog 48 #[.pointer (some ⟨w.heap.size,0,none⟩)] encZ S N (w.alloc (.cells #[.map f] 64))):Calls Tryz.prog 8 #[.pointer (some ⟨g,0,none⟩)] w λe w'=>∃v c,e=.returned v/\S c/\gS w.heap.size v (c.mergeSort leI) w'/\Below w.heap.size w w':=by
 refine(callsIn_wide (n:=6)).1 ?_;have h:∀b a,CallsIn Fence.wide 5 Tryz.prog 22 #[.map b] a λe w'=>e=.returned (.func (.func 48) #[] #[.pointer (some ⟨a.heap.size,0,none⟩)])/\w'=a.alloc (.cells #[.map b] 64):=λb a=>AnyZI.keys_in Tryz.keysA Fence.wide 5 trivial rfl b a;have d:=AnyZI.sorted_in Tryz.sortedA Fence.wide 5 trivial trivial trivial trivial rfl (by omega) (KH _) (enters_of Tryz.func47 (by kernel_rfl) rfl) 48 #[.pointer (some ⟨w.heap.size,0,none⟩)] trivial (enters_of Tryz.func48 (by kernel_rfl) rfl) _ _ (by unfold maxLen;omega) (by omega) _ l;change CallsIn _ _ Tryz.prog 21 _ _ _ at d;have p:Fence.wide.fn 22:=trivial;have q:Fence.wide.fn 21:=trivial;refine callsIn_of_wp Tryz.func8 rfl trivial ?_ rfl;simp only[Tryz.ntmps8,eQ,aW,jQ,Nat.reduceAdd,Nat.reduceSub,Array.replicate_succ,Array.replicate_zero,List.push_toArray,List.append_toArray,lM,fq]
 gi_wp2_with (first
  | (gi_at_call 22;refine(h _ _).mono ?_;rintro e w' ⟨rfl,rfl⟩)
  | (gi_at_call 21;refine d.mono ?_;rintro e w' ⟨v,c,rfl,i,k,r,j⟩))
 go_ret
 refine⟨v,c,rfl,i,?_,((ah _ w).alloc (ag _) _).trans (j.mono (by simp))⟩;have:=ownsRow_base_a k (by simp:w.heap.size<=_);unfold gS;rw[List.length_mergeSort];exact this
section
variable {p:lT} {s:Sy} {d:fW} {w:World}
theorem aV.aliveL(g:aV p s d w):Calls Tryz.prog 8 #[.pointer (some ⟨p.b,0,none⟩)] w λe w'=>∃v q,e=.returned v/\q.Perm (s.ps.map (·.1))/\gS w.heap.size v q w'/\Below w.heap.size w w':=by
 obtain⟨h,B,t,C,D,E⟩:=g.keys;have F:d.l.length=s.ps.length:=by
  have:=congrArg List.length h;simpa using this
 have f:=g.cells.2.2.2;have o:Below w.heap.size w (w.alloc (.cells #[.map d.po] 64)):=(ah _ w).alloc (ag _) _;rcases g.pm with⟨m,n⟩|⟨j,m,_,_,n⟩
 ·rw[m]at f o;refine(sF p.b none w (λa=>a=[]) 0 f (by omega) (AnyZI.keys_gives_nil (ρ:=Tryz.keysA_ren) {Tryz.keysA with} Fence.wide _ trivial rfl w.heap.size _ (by simp) (by simp))).mono ?_;rintro e w' ⟨v,a,rfl,rfl,c,i⟩;exact⟨v,[],rfl,by rw[<-h,n];exact List.Perm.refl _,by simpa using c,i⟩
 ·rw[m]at f o;have i:=g.low j (by omega)
  obtain⟨k,y,z,G⟩:=IN (n.kept (o.block j (by omega))) (λr x=>by
   have:r.1∈s.ps.map (·.1):=h▸cC.2 ⟨r,x,rfl⟩;obtain⟨A,c,e⟩:=cC.1 this;have:=t A c;simp[Lit.wf,IntKind.min,IntKind.max,IntKind.signed,IntKind.bits]
   omega) (by unfold maxLen;omega)
  refine(sF p.b (some j) w (λa=>a.Perm (intKeys k)) (Maps.size k) f (by omega) (AnyZI.keys_gives (ρ:=Tryz.keysA_ren) {Tryz.keysA with} Fence.wide _ trivial rfl (by omega) w.heap.size j _ k _ (by simp) (by simp) y)).mono ?_;rintro e w' ⟨v,a,rfl,u,c,i⟩;exact⟨v,_,rfl,(List.mergeSort_perm a leI).trans (u.trans (z.trans (List.Perm.of_eq h))),c,i⟩
end
def wN:ByteArray:=⟨#[110]⟩
def fE:ByteArray:=⟨#[97,100,100]⟩
def bG:ByteArray:=⟨#[114,101,108,97,121]⟩
def my(k:Int)(N:Nat):Tm (N+1):=aS 5 k N
def zR:Tm 3:=cM 2 [aQ wN 1,my 1 1]
def oZ:Tm 3:=cM 2 [aQ wN 1,cM 1 [aQ fE 0,my 1 0,aS 1 1 0]]
def ji:List (Bh 3):=[(bG,(none,0),[((my 0 2,zR,my 0 2),(none,0),[(1,(my 0 2,oZ),.empty,0)])])]
theorem BI:jy 3 ji=true:=by
 have a:cg bG=true:=by simp[cg,bG,kK,fk,ol,show (⟨#[114,101,108,97,121]⟩:ByteArray).size=5 from rfl]
 have b:(ByteArray.empty).toList=[]:=by simp[du]
 simp[jy,ji,sI,ri,lU,tE,a,b]
theorem Ep:bA 8 (cR 2 ji)=0:=by
 have k:aq 8 (cR 2 ji)=[((4,0,.empty),(none,2,0)),((2,0,iO),(none,0,0)),((4,0,.empty),(none,3,0)),((2,0,nh),(none,0,0)),((2,0,bG),(none,0,0)),((4,0,.empty),(none,5,0)),((2,0,B5),(none,0,0)),((5,0,.empty),(none,0,0)),((4,0,.empty),(none,2,0)),((2,0,wN),(none,0,0)),((5,1,.empty),(none,0,0)),((4,0,.empty),(none,1,0)),((4,0,.empty),(none,3,0)),((2,0,iP),(none,0,0)),((5,0,.empty),(none,0,0)),((4,0,.empty),(none,2,0)),((2,0,wN),(none,0,0)),((4,0,.empty),(none,3,0)),((2,0,fE),(none,0,0)),((5,1,.empty),(none,0,0)),((1,1,.empty),(none,0,0)),((5,0,.empty),(none,0,0))]:=rfl;have d1:mK 8 (cR 2 ji) 0=[0,1,1,2,2,2,3,3,3,4,4,3,4,5,5,5,6,6,7,7,7,3]:=rfl;have l:(sz 8 (cR 2 ji):Int)<=200:=by decide
 have b:(ByteArray.empty).toList=[]:=by simp[du]
 have d:cg iO=true:=by simp[cg,iO,kK,fk,ol,show (⟨#[99,111,100,101]⟩:ByteArray).size=4 from rfl]
 have e:cg nh=true:=by simp[cg,nh,kK,fk,ol,show (⟨#[98,101,104]⟩:ByteArray).size=3 from rfl]
 have f:cg bG=true:=by simp[cg,bG,kK,fk,ol,show (⟨#[114,101,108,97,121]⟩:ByteArray).size=5 from rfl]
 have g:cg B5=true:=by simp[cg,B5,kK,fk,ol,show (⟨#[111,110]⟩:ByteArray).size=2 from rfl]
 have h:cg wN=true:=by simp[cg,wN,kK,fk,ol,show (⟨#[110]⟩:ByteArray).size=1 from rfl]
 have i:cg iP=true:=by simp[cg,iP,kK,fk,ol,show (⟨#[115,101,110,100]⟩:ByteArray).size=4 from rfl]
 have j:cg fE=true:=by simp[cg,fE,kK,fk,ol,show (⟨#[97,100,100]⟩:ByteArray).size=3 from rfl]
 unfold bA;generalize sz 8 (cR 2 ji)=a at*;rw[k,d1];have c:¬200<a:=by omega
 simp[xZ,bT,kT,kK,b,d,e,f,g,h,i,j,c]
theorem Es:mz 2 ji=0:=by
 unfold mz;rw[BI];exact Ep
end Go.Proofs.YtnidfceinoiboaaGreat
