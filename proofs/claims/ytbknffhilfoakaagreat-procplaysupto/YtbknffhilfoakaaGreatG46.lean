/- What is proved here: told as a term, a program in form is of no more terms than its bulk and 2897. No condition beside its form. -/
import Derived.Test.YtbknffhilfoakaaGreatG44
namespace Go.Proofs.YtbknffhilfoakaaGreat
theorem qL:(N n:Nat)->n<=N->(x:Tm n)->wt N (lift N n x)=wt n x
 | 0,0,_,_=>rfl
 | N+1,0,_,_=>by simp[lift,wt]
 | N+1,n+1,h,x=>by
  simp only[lift,wt,List.map_map]
  congr 2
  refine List.map_congr_left fun y _=> ?_
  exact qL N n (by omega) y
theorem GQ:(n:Nat)->(x:Tm n)->1<=wt n x
 | 0,_=>by simp[wt]
 | n+1,x=>by simp only[wt];omega
theorem nR {α:Type} (f g:α->Nat) (c:Nat):(l:List α)->(∀y∈l,f y<=g y+c)->(l.map f).sum<=(l.map g).sum+l.length*c
 | [],_=>by simp
 | y::l,h=>by
  have h1:=h y (by simp)
  have h2:=nR f g c l fun z hz=>h z (by simp[hz])
  simp only[List.map_cons,List.sum_cons,List.length_cons,Nat.add_mul,Nat.one_mul]
  omega
theorem kg (s:ByteArray) (N:Nat):wt (N+1) (ay s N)=1+s.size:=by simp[wt,ay]
theorem lh (N:Nat) (l:List (Tm N)):wt (N+1) (bV N l)=1+(l.map (wt N)).sum:=by simp[wt,bV]
theorem IX (k u:Int) (N:Nat):wt (N+1) (aQ k u N)=1:=by simp[wt,aQ]
theorem ES (n:Nat) (a:Ac (n+1)):wt (n+2) (eQ n a)<=EP (n+1) a+8:=by
 have h1:=GQ (n+1) a.2.1.1
 have h2:=GQ (n+1) a.2.1.2
 have e1:jM.size=4:=rfl
 have e2:gV.size=5:=rfl
 have e3:jD.size=4:=rfl
 have e4:jP.size=4:=rfl
 unfold eQ EP
 split
 ·rw[lh];simp only[List.map_cons,List.map_nil,List.sum_cons,List.sum_nil,kg];omega
 ·split
  ·rw[lh];simp only[List.map_cons,List.map_nil,List.sum_cons,List.sum_nil,kg,IX];omega
  ·split
   ·rw[lh];simp only[List.map_cons,List.map_nil,List.sum_cons,List.sum_nil,kg];omega
   ·rw[lh];simp only[List.map_cons,List.map_nil,List.sum_cons,List.sum_nil,kg];omega
theorem EN (n:Nat) (c:Cl (n+1)) (h:wQ (n+1) c=true):wt (n+4) (eT n c)<=Co (n+1) c+68:=by
 have e1:zH.size=2:=rfl
 have hl:c.2.2.length<=8:=by
  simp only[wQ,Bool.and_eq_true,decide_eq_true_eq]at h
  omega
 have hs:=nR (fun a=>wt (n+2) (eQ n a)) (EP (n+1)) 8 c.2.2 fun a _=>ES n a
 have l1:=qL (n+3) (n+1) (by omega) c.1.1
 have l2:=qL (n+3) (n+1) (by omega) c.1.2.1
 have l3:=qL (n+3) (n+1) (by omega) c.1.2.2
 unfold eT Co
 rw[lh]
 simp only[List.map_cons,List.map_nil,List.sum_cons,List.sum_nil,kg,lh,List.map_map,l1,l2,l3]
 have hs':(c.2.2.map (wt (n+2) ∘ eQ n)).sum<=(c.2.2.map (EP (n+1))).sum+c.2.2.length*8:=hs
 omega
theorem Fx (n:Nat) (b:Bh (n+1)) (h:AQ (n+1) b=true):wt (n+5) (fQ n b)<=zJ (n+1) b+413:=by
 have e1:mR.size=3:=rfl
 simp only[AQ,Bool.and_eq_true,decide_eq_true_eq,List.all_eq_true]at h
 have hs:(b.2.2.map (wt (n+4) ∘ eT n)).sum<=(b.2.2.map (Co (n+1))).sum+b.2.2.length*68:=nR (fun a=>wt (n+4) (eT n a)) (Co (n+1)) 68 b.2.2 fun a ha=>EN n a (h.2 a ha)
 have hl:b.2.2.length<=6:=by omega
 unfold fQ zJ
 rw[lh]
 simp only[List.map_cons,List.sum_cons,kg,List.map_map]
 omega
theorem FX (n:Nat) (p:List (Bh (n+1))) (h:og (n+1) p=true):wt (n+6) (dx n p)<=(p.map (zJ (n+1))).sum+2897:=by
 have e1:kw.size=4:=rfl
 simp only[og,Bool.and_eq_true,decide_eq_true_eq,List.all_eq_true]at h
 have hs:(p.map (wt (n+5) ∘ fQ n)).sum<=(p.map (zJ (n+1))).sum+p.length*413:=nR (fun a=>wt (n+5) (fQ n a)) (zJ (n+1)) 413 p fun a ha=>Fx n a (h.2 a ha)
 have hl:p.length<=7:=by omega
 unfold dx
 rw[lh]
 simp only[List.map_cons,List.sum_cons,kg,List.map_map]
 omega
theorem wZ (n:Nat) (p:List (Bh (n+1))) (h:og (n+1) p=true) (hb:(p.map (zJ (n+1))).sum<=1048576):(nodes (n+6) (dx n p)).length<=2097152:=by
 have h1:=mZ (n+6) (dx n p)
 have h2:=FX n p h
 omega
end Go.Proofs.YtbknffhilfoakaaGreat
