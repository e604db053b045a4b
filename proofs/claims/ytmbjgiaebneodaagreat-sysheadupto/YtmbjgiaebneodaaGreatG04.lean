/- What is proved here: term.formed and what it calls: whether a term that lies in memory, and each term in it, is as its Kind asks: the plain function formedB; no memory that was there is turned. No condition but that the term lies in memory. -/
import Derived.Test.YtmbjgiaebneodaaGreatG03
import Derived.Handy
namespace Go.Proofs.YtmbjgiaebneodaaGreat
open Go.RowKit
set_option maxHeartbeats 1000000
set_option maxRecDepth 100000
theorem Di (s:ByteArray) (w:World) (hs:s.size<=9223372036854775807):
    Calls Tryz.prog 76 #[.string s] w fun e w'=>e=.returned (.bool (eu s.data.toList))/\w'=w:=by
 go_enter Tryz.func76,Tryz.ntmps76
 go_wp2_with fail
 go_loop [3] (fun i=>∃k:Nat,k<=s.size/\i=.int .i64 k/\Hid (eu (s.data.toList.take k)=true)) (fun i=>s.size-(intOf i).toNat)
 case atStart=>exact⟨0,Nat.zero_le _,rfl,by simp[Hid,eu]⟩
 case round=>
  obtain⟨k,hk,rfl,hb⟩:=hrel
  by_cases hlt:k<s.size
  ·have HS:=hide (Ea s k hlt)
   have HX:Hid (nN s[k]=false->false=eu s.data.toList):=fun h=>by
    have h2:eu s.data.toList=(eu (s.data.toList.take (k+1)) && eu (s.data.toList.drop (k+1))):=by
     conv=>lhs;rw[<-List.take_append_drop (k+1) s.data.toList]
     simp only[eu,List.all_append]
    rw[h2,HS.out,h]
    simp
   by_cases h1:97<=(s[k].toNat:Int)
   ·by_cases h2:(s[k].toNat:Int)<=122
    ·go_wp2_with fail
     go_round
     case rel=>exact⟨k+1,by omega,by go_num,by simp only[Hid];rw[HS.out,hb.out];simp[nN,h1,h2]⟩
     case measure=>simp[intOf];omega
    ·go_wp2_with fail
     go_ret
     exact⟨aT (HX.out (by simp[nN,h2])),rfl⟩
   ·go_wp2_with fail
    go_ret
    exact⟨aT (HX.out (by simp[nN];omega)),rfl⟩
  ·go_wp2_with fail
   go_ret
   exact⟨aT (by rw[<-hb.out,List.take_of_length_le (by simp;omega)]),rfl⟩
theorem gV (s:ByteArray) (w:World) (hs:s.size<=9223372036854775807):
    Calls Tryz.prog 49 #[.string s] w fun e w'=>e=.returned (.bool (bq s))/\w'=w:=by
 by_cases h1:(1:Int)<=s.size
 ·by_cases h2:(s.size:Int)<=8
  ·have HN:Hid (bq s=eu s.data.toList):=by simp only[Hid,bq,kr];simp[h1,h2]
   go_enter Tryz.func49,Tryz.ntmps49
   go_wp2_with (go_at_call 76;refine(Di _ _ hs).mono ?_;rintro e w' ⟨rfl,rfl⟩)
   all_goals go_ret
   all_goals exact⟨aT (by rw[HN.out]),rfl⟩
  ·have HN:Hid (bq s=false):=by simp only[Hid,bq,kr];simp[h2]
   go_enter Tryz.func49,Tryz.ntmps49
   go_wp2_with fail
   go_ret
   exact⟨aT (by rw[HN.out]),rfl⟩
 ·have HN:Hid (bq s=false):=by simp only[Hid,bq,kr];simp[h1]
  go_enter Tryz.func49,Tryz.ntmps49
  go_wp2_with fail
  go_ret
  exact⟨aT (by rw[HN.out]),rfl⟩
def aL (n:Nat) (x:Tm (n+1)):Nd:=(x.1,(x.2.1.1,x.2.2.length,x.2.1.2))
def aY:(n:Nat)->Tm n->Bool
 | 0,_=>false
 | n+1,x=>good (aL n x) && (!(x.1.1==4) || x.2.2.all fun y=>aY n y)
def Ou (n:Nat):Prop:=∀(x:Tm n) (B:Nat) (w:World),In B w n x->B<=w.heap.size->
 Calls Tryz.prog 65 #[val n x] w fun e w'=>e=.returned (.bool (aY n x))/\Below w.heap.size w w'
theorem iY (w:World) (k u:Int) (s:ByteArray) (a:Option Addr) (l c:Nat) (hk:k=1∨k=3∨k=5∨k=6):
    Calls Tryz.prog 65 #[.agg #[.int .i64 k,.int .i64 u,.string s,.slice a l c]] w fun e w'=>e=.returned (.bool (good ((k,u,s),(a,l,c))))/\Below w.heap.size w w':=by
 rcases hk with rfl|rfl|rfl|rfl
 all_goals
  go_enter Tryz.func65,Tryz.ntmps65
  go_wp2
  all_goals go_ret
  all_goals refine⟨aT ?_,by go_grown⟩
  all_goals go_light
  all_goals first|(simp[good,kr, *];done)|(simp[good,kr, *];omega)
theorem CJ (w:World) (u:Int) (s:ByteArray) (a:Option Addr) (l c:Nat) (hs:s.size<=9223372036854775807):
    Calls Tryz.prog 65 #[.agg #[.int .i64 2,.int .i64 u,.string s,.slice a l c]] w fun e w'=>e=.returned (.bool (good ((2,u,s),(a,l,c))))/\Below w.heap.size w w':=by
 go_enter Tryz.func65,Tryz.ntmps65
 go_wp2_with (go_at_call 49;refine(gV _ _ hs).mono ?_;rintro e w' ⟨rfl,rfl⟩)
 all_goals go_ret
 all_goals refine⟨aT ?_,by go_grown⟩
 all_goals go_light
 all_goals first|(simp[good, *];done)|(simp[good, *];omega)
theorem AJ (w:World) (k u:Int) (s:ByteArray) (a:Option Addr) (l c:Nat) (k1:¬k=1) (k2:¬k=2) (k3:¬k=3) (k4:¬k=4) (k5:¬k=5) (k6:¬k=6):
    Calls Tryz.prog 65 #[.agg #[.int .i64 k,.int .i64 u,.string s,.slice a l c]] w fun e w'=>e=.returned (.bool (good ((k,u,s),(a,l,c))))/\Below w.heap.size w w':=by
 have hg:good ((k,u,s),(a,l,c))=false:=by simp[good,k1,k2,k3,k4,k5,k6]
 rw[hg]
 have e1:(k==1)=false:=by simpa using k1
 have e2:(k==2)=false:=by simpa using k2
 have e3:(k==3)=false:=by simpa using k3
 have e4:(k==4)=false:=by simpa using k4
 have e5:(k==5)=false:=by simpa using k5
 have e6:(k==6)=false:=by simpa using k6
 clear k1 k2 k3 k4 k5 k6 hg
 go_enter Tryz.func65,Tryz.ntmps65
 go_wp2_with fail
 go_ret
 exact⟨rfl,by go_grown⟩
theorem AA (n:Nat) (ih:Ou n) (p:List (Tm n)) (len:Nat) (hpl:Hid (p.length=len)) (a:Option Addr) (pc B:Nat) (w:World)
    (hp:Hid (p=[]∨∃b o,a=some ⟨b,o,none⟩/\b<B/\∀(i:Nat) (y:Tm n),p[i]? =some y->Held w b (o+i*4) n y/\In B w n y))
    (hlen:len<=9223372036854775807) (hB:B<=w.heap.size):
    Calls Tryz.prog 91 #[.slice a len pc] w fun e w'=>e=.returned (.bool (decide ((len:Int)<=8) && p.all fun y=>aY n y))/\Below w.heap.size w w':=by
 by_cases h8:(8:Int)<len
 ·have h8':decide ((len:Int)<=8)=false:=by simp;omega
  rw[h8']
  go_enter Tryz.func91,Tryz.ntmps91
  go_wp2_with fail
  go_ret
  exact⟨rfl,Below.refl _ _⟩
 have h8':decide ((len:Int)<=8)=true:=by simp;omega
 rw[h8',Bool.true_and]
 clear h8'
 go_enter Tryz.func91,Tryz.ntmps91
 go_wp2_with fail
 go_loopw [10] (fun i wr=>∃k:Nat,k<=len/\i=.int .i64 k/\Below w.heap.size w wr/\Hid (((p.drop k).all fun y=>aY n y)=p.all fun y=>aY n y)) (fun i _=>len-(intOf i).toNat)
 case atStart=>exact⟨0,by omega,rfl,Below.refl _ _,rfl⟩
 case round=>
  obtain⟨k,hk,rfl,hb,hd⟩:=hrel
  by_cases hlt:k<len
  ·obtain⟨x,hx⟩:∃x,p[k]? =some x:=⟨p[k]'(by rw[hpl.out];exact hlt),List.getElem?_eq_getElem _⟩
   have HS:Hid (((p.drop k).all fun y=>aY n y)=(aY n x && (p.drop (k+1)).all fun y=>aY n y)):=by
    obtain⟨h1,e1⟩:=List.getElem?_eq_some_iff.1 hx
    rw[List.drop_eq_getElem_cons h1,e1]
    rfl
   rcases hp.out with hp|⟨pb,po,rfl,hpb,hp⟩
   ·subst hp;simp at hx
   obtain⟨hx1,hx2⟩:=hp k x hx
   replace hx1:=hx1.below (hb.mono hB) hpb
   replace hx2:=hx2.below (hb.mono hB)
   clear hp hx
   cases n with
   | zero=>exact hx1.elim
   | succ n=>
   obtain⟨x0,x1,x2,x3⟩:=hx1
   have hB':B<=wr.heap.size:=Nat.le_trans hB hb.size
   have HC:Hid (∀w1,Below wr.heap.size wr w1->Calls Tryz.prog 65 #[.agg #[.int .i64 x.1.1,.int .i64 x.1.2.1,.string x.1.2.2,.slice x.2.1.1 x.2.2.length x.2.1.2]] w1 fun e w'=>e=.returned (.bool (aY (n+1) x))/\Below w1.heap.size w1 w'):=
    fun w1 h1=>ih x B w1 (hx2.below (h1.mono hB')) (Nat.le_trans hB' h1.size)
   clear ih hx2
   generalize x.2.2.length=xl at*
   generalize aY (n+1) x=r at*
   have hk1:(0:Int)<=(k:Int):=by omega
   have hk2:(k:Int)<(len:Int):=by omega
   go_wp2_with fail
   refine(HC.out _ ((Below.refl _ _).alloc (Nat.le_refl _) _)).mono ?_
   rintro e w1 ⟨rfl,hb1⟩
   have hb2:Below w.heap.size w w1:=(hb.trans (((Below.refl _ _).alloc (Nat.le_refl _) _).mono hb.size)).trans (hb1.mono (by have:=hb.size;simp;omega))
   clear hb1
   cases r with
   | true=>
    go_wp2_with fail
    go_roundw
    case rel=>exact⟨k+1,by omega,by go_num,hb2,by rw[<-hd.out,HS.out];rfl⟩
    case measure=>simp[intOf];omega
   | false=>
    go_wp2_with fail
    go_ret
    exact⟨aT (by rw[<-hd.out,HS.out];rfl),hb2⟩
  ·go_wp2_with fail
   go_ret
   refine⟨aT ?_,hb⟩
   rw[<-hd.out,List.drop_eq_nil_of_le (by rw[hpl.out];omega)]
   rfl
theorem Dw (w:World) (u:Int) (s:ByteArray) (a:Option Addr) (l c:Nat) (r:Bool)
    (H:Hid (∀w1:World,Below w.heap.size w w1->Calls Tryz.prog 91 #[.slice a l c] w1 fun e w'=>e=.returned (.bool (decide ((l:Int)<=8) && r))/\Below w1.heap.size w1 w')):
    Calls Tryz.prog 65 #[.agg #[.int .i64 4,.int .i64 u,.string s,.slice a l c]] w fun e w'=>e=.returned (.bool (good ((4,u,s),(a,l,c)) && r))/\Below w.heap.size w w':=by
 have hg:good ((4,u,s),(a,l,c))=(s.toList.isEmpty && u==0 && decide ((l:Int)<=8)):=by simp[good]
 rw[hg]
 generalize decide ((l:Int)<=8)=l8 at*
 clear hg
 cases h1:u==0
 ·go_enter Tryz.func65,Tryz.ntmps65
  go_wp2_with fail
  go_ret
  exact⟨aT (by simp),by go_grown⟩
 cases h2:s.toList.isEmpty
 ·go_enter Tryz.func65,Tryz.ntmps65
  go_wp2_with fail
  go_ret
  exact⟨aT (by simp),by go_grown⟩
 go_enter Tryz.func65,Tryz.ntmps65
 go_wp2_with fail
 refine(H.out _ ((Below.refl _ _).alloc (Nat.le_refl _) _)).mono ?_
 rintro e w1 ⟨rfl,hb1⟩
 have hb2:Below w.heap.size w w1:=((Below.refl _ _).alloc (Nat.le_refl _) _).trans (hb1.mono (by simp))
 clear hb1
 go_wp2_with fail
 all_goals go_ret
 all_goals exact⟨aT (by simp),hb2⟩
theorem EO (n:Nat):Ou n:=by
 induction n with
 | zero=>intro x B w hx;exact hx.elim
 | succ n ih=>
  intro x B w hx hB
  obtain⟨⟨k,u,s⟩,⟨a,pc⟩,p⟩:=x
  obtain⟨⟨_,_,hs,hpl,hpc⟩,hp⟩:=hx
  simp only at hs hpl hpc hp
  unfold maxLen at hpc hs
  show Calls Tryz.prog 65 #[.agg #[.int .i64 k,.int .i64 u,.string s,.slice a p.length pc]] w fun e w'=>e=.returned (.bool (good ((k,u,s),(a,p.length,pc)) && (!(k==4) || p.all fun y=>aY n y)))/\Below w.heap.size w w'
  by_cases k4:k=4
  ·subst k4
   refine Dw w u s a p.length pc _ (fun w1 hw=>AA n ih p p.length rfl a pc B w1 ?_ (by omega) (Nat.le_trans hB hw.size))
   rcases hp with hp|⟨b,o,e,hb,hp⟩
   ·exact Or.inl hp
   ·exact Or.inr ⟨b,o,e,hb,fun i y hy=>⟨(hp i y hy).1.below (hw.mono hB) hb,(hp i y hy).2.below (hw.mono hB)⟩⟩
  ·have e4:(!(k==4) || p.all fun y=>aY n y)=true:=by simp[k4]
   rw[e4,Bool.and_true]
   by_cases k1:k=1
   ·exact iY w k u s a p.length pc (Or.inl k1)
   by_cases k2:k=2
   ·subst k2
    exact CJ w u s a p.length pc (by omega)
   by_cases k3:k=3
   ·exact iY w k u s a p.length pc (Or.inr (Or.inl k3))
   by_cases k5:k=5
   ·exact iY w k u s a p.length pc (Or.inr (Or.inr (Or.inl k5)))
   by_cases k6:k=6
   ·exact iY w k u s a p.length pc (Or.inr (Or.inr (Or.inr k6)))
   ·exact AJ w k u s a p.length pc k1 k2 k3 k4 k5 k6
end Go.Proofs.YtmbjgiaebneodaaGreat
