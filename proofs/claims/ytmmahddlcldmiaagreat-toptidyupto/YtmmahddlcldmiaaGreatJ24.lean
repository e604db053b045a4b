/- Proved here: plain facts and contracts. No condition but what each names. -/
import Derived.Test.YtmmahddlcldmiaaGreatJ23
namespace Go.Proofs.YtmmahddlcldmiaaGreat
open Go.RowKit Go.Proofs.Tryz
open Go.RowKit Go.Maps
set_option maxRecDepth 100000
set_option maxHeartbeats 2000000
theorem JE{a β:Type}{l r:List a}(c:List.Sublist l r)(f:a->List β):List.Sublist (l.flatMap f) (r.flatMap f):=by
 induction c with
 | slnil=>exact List.Sublist.refl _
 | cons b _ ih=>
  simp only[bF];exact ih.trans (List.sublist_append_right _ _)
 | cons_cons b _ ih=>
  simp only[bF];exact List.Sublist.append (List.Sublist.refl _) ih
theorem MV{b:Type}{l r:List b}(c:List.Sublist l r)(f:b->Int)(d:∀a,0<=f a):(l.map f).sum<=(r.map f).sum:=by
 induction c with
 | slnil=>exact jh _
 | cons a _ ih=>
  simp only[aN,bI];have:=d a;omega
 | cons_cons a _ ih=>
  simp only[aN,bI];omega
theorem jX.erase{N:Nat}{ws:List Wd}{nm:List ByteArray}{room:Int}{d:Wd}{vs:List Wd}{s:Tm (N+1)}{ms:List (Tm (N+1))}(l:jX (N+1) ws nm room (d::vs) (s::ms))(i:Nat):jX (N+1) ws nm room (d::vs.eraseIdx i) (s::ms.eraseIdx i):=by
 obtain⟨f,o,p,v,q,r,t,u⟩:=l;have m:vs.length=ms.length:=by simpa using f.1
 have n:List.Sublist (d::vs.eraseIdx i) (d::vs):=(List.eraseIdx_sublist vs i).cons_cons d;have j:List.Sublist (s::ms.eraseIdx i) (s::ms):=(List.eraseIdx_sublist ms i).cons_cons s;refine⟨⟨by simp[List.length_eraseIdx,m],λc g e b a=>?_⟩,(JE n _).nodup o,λe a=>p e (j.subset a),?_,q,r,t,u⟩
 ·cases c with
  | zero=>
   simp only[cQ,jm]at b a;exact f.2 0 g e (by simp[b]) (by simp[a])
  | succ c=>
   simp only[dg,List.getElem?_eraseIdx]at b a;by_cases h:c<i
   ·rw[if_pos h]at b a;exact f.2 (c+1) g e (by simpa using b) (by simpa using a)
   ·rw[if_neg h]at b a;exact f.2 (c+2) g e (by simpa using b) (by simpa using a)
 ·have:=MV j (sz (N+1)) λk=>(eX (N+1) k).1;omega
section
variable {base pb:Nat} {name:ByteArray} {room:Int} {N:Nat} {s:Tm (N+1)} {ms:List (Tm (N+1))} {nk:Nat} {M:Nat->Prop} {w:World} {ws:List Wd} {nm:List ByteArray} {sv:Wd} {vs:List Wd} {ma:Option Addr} {mc:Nat} {Mh:Nat->Prop}
theorem cH.dropped(a:cH base pb name room (N+1) s ms [] nk M w ws nm sv vs ma mc Mh)(i:Nat){w1:World}{g:Nat}(x:¬Mh g)(l:bt (λb=>b=g) w w1)(v:jK Mh ma (vs.eraseIdx i) mc w1)(u:M g):cH base pb name room (N+1) s (ms.eraseIdx i) [] nk M (w1.setCell ⟨pb,7,none⟩ (.slice ma (vs.eraseIdx i).length mc)) ws nm sv (vs.eraseIdx i) ma mc Mh/\bT M w (w1.setCell ⟨pb,7,none⟩ (.slice ma (vs.eraseIdx i).length mc)):=by
 obtain⟨m,z⟩:=a.box0;have q:dH base (PL pb name sv (ae ma vs.length mc)) room ws nm Mh w1:=a.heap.kept (jw l) λb r _ c=>x (by rw[<-c];exact r);have k:=bq w1 pb 7 (.slice ma (vs.eraseIdx i).length mc);have j:=a.has;simp only[b8,eF]at j;refine⟨⟨q.turn k λB A mp t=>?_,?_,?_,?_,a.names,a.inM,a.mailM⟩,?_⟩
 ·unfold World.setCell;simp[bJ,t]
 ·rcases v with d|⟨h,y,n,o,e,f,p⟩
  ·exact ah d
  ·exact ai ⟨h,y,n,o,e,(k.block h (aF.1 f).1 λd=>e (by rw[d];exact m)).trans f,p⟩
 ·simp only[b8,eF];exact j.erase i
 ·simp[List.length_eraseIdx,a.len]
 ·refine bT.trans ((jw l).mono λb c=>?_) k λb _ c=>?_
  ·rw[c];exact u
  ·rw[c];exact a.inM pb m
theorem cH.delete(a:cH base pb name room (N+1) s ms [] nk M w ws nm sv vs ma mc Mh)(i:Nat)(H:i<ms.length)(G:ms.length<=1000):ak 78 #[ae ma vs.length mc,ab i,ab ((i:Int)+1)] w λe w'=>e=.returned (.slice ma (vs.eraseIdx i).length mc)/\Hid (bt M w w'/\w'.cell? ⟨pb,7,none⟩=some (ae ma vs.length mc)/\w'.frozen? ⟨pb,7,none⟩=false/\ cH base pb name room (N+1) s (ms.eraseIdx i) [] nk M (w'.setCell ⟨pb,7,none⟩ (.slice ma (vs.eraseIdx i).length mc)) ws nm sv (vs.eraseIdx i) ma mc Mh/\bT M w (w'.setCell ⟨pb,7,none⟩ (.slice ma (vs.eraseIdx i).length mc))):=by
 have k:=a.len;obtain⟨E,m⟩:=a.box0;have f:(vs.eraseIdx i).length=vs.length-1:=by rw[List.length_eraseIdx,if_pos (by omega)]
 rcases a.mail with⟨_,e,_⟩|⟨g,n,u,rfl,d,x,y,z,A,B⟩
 ·rw[e]at k;simp at k;omega
 ·refine(yX g n mc i vs u w (by omega) x y (by omega) A B).mono ?_;rintro e w' ⟨rfl,o⟩;obtain⟨c,I,v,p,F,q⟩:=o;have j:=a.mailM _ rfl;have l:¬pb=g:=λe=>d (by rw[<-e];exact E);obtain⟨L,J,K,C,_⟩:=a.heap.box;obtain⟨_,_,_,r,t,_⟩:=PL.cells C;have D:=a.dropped i (w1:=w') (g:=g) d c (ai ⟨g,n,v,rfl,d,p,by omega,z,by omega,by rw[f];exact q⟩) j;refine⟨by rw[f],c.mono λb _ e=>by rw[e];exact j,(c.cell 7 m l).trans r,?_,D⟩;have h:=t 7;unfold World.frozen? at h ⊢;rw[c.block pb m l];exact h
end
def rQ(n:Nat)(room:Int)(l:List (Bh (n+1)))(name:ByteArray)(self next:Int)(s:Tc)(ms:List Tc):Int:=
 if lP n l≠0 then lP n l else if (decide (1<=self) && decide (self<=99) && decide (1<=next) && decide (next<=92))=false then 1 else if (nE room l name self next s ms).isSome then 0 else 4
def lV(c:Nat)(sends:List (Int×Tc))(spawns:List (Int×ByteArray×Tc))(links:List Int)(sa:Option Addr)(sl sc:Nat)(pa:Option Addr)(pl pc:Nat)(ka:Option Addr)(kl kc:Nat)(P:Nat->Prop)(w:World):Prop:=
 ∃(f:Nat)(d:List (Int×Tm (f+1)))(e:List (Int×ByteArray×Tm (f+1))),(d.length=sl/\e.length=pl/\links.length=kl)/\w.ownsRow c 177 5 (ae sa sl sc) sl (d.flatMap λa=>Nt a.1 a.2)/\w.ownsRow c 174 6 (ae pa pl pc) pl (e.flatMap λa=>Ox a.1 a.2.1 a.2.2)/\w.ownsRow c 3 1 (ae ka kl kc) kl (links.map λg=>ab g)/\
  d.map (λa=>(a.1,cn _ a.2))=sends/\e.map (λa=>(a.1,a.2.1,cn _ a.2.2))=spawns/\(∀a∈d,bz _ a.2=0/\In w.heap.size w _ a.2/\ch (λb=>c<=b/\P b) _ a.2)/\(∀a∈e,bz _ a.2.2=0/\In w.heap.size w _ a.2.2/\ch (λb=>c<=b/\P b) _ a.2.2)/\∀b,((Value.slice sa sl sc).ownBlock=some b\/(Value.slice pa pl pc).ownBlock=some b\/(Value.slice ka kl kc).ownBlock=some b)->c<=b/\P b
theorem lV.kept{f:Nat}{sends:List (Int×Tc)}{spawns:List (Int×ByteArray×Tc)}{links:List Int}{sa:Option Addr}{sl sc:Nat}{pa:Option Addr}{pl pc:Nat}{ka:Option Addr}{kl kc:Nat}{P:Nat->Prop}{w w':World}(v:lV f sends spawns links sa sl sc pa pl pc ka kl kc P w){S:Nat->Prop}(r:bt S w w')(o:∀q,f<=q->P q->q<w.heap.size->¬S q):lV f sends spawns links sa sl sc pa pl pc ka kl kc P w':=by
 obtain⟨u,H,I,x,y,z,A,B,C,g,h,i⟩:=v;have p:∀{e:Nat}{m:Tm e},In w.heap.size w e m->ch (λq=>f<=q/\P q) e m->In w'.heap.size w' e m:=λF G=>F.kee (r.mono (T:=λb=>S b/\b<w.heap.size) λb D q=>⟨q,D⟩) (G.mono λq c (a:S q/\q<w.heap.size)=>o q c.1 c.2 a.2 a.1);have l:∀{k:TypeId}{a e:Nat}{j:Value}{n:List Value},w.ownsRow f k a j e n->(∀q,j.ownBlock=some q->f<=q/\P q)->w'.ownsRow f k a j e n:=λ{k a e j n} s t=>bk s r λq c=>by
  obtain⟨J,E⟩:=ew s q c;exact o q (t q c).1 (t q c).2 (aF.1 E).1
 exact⟨u,H,I,x,l y λq c=>i q (ah c),l z λq c=>i q (ai (ah c)),l A λq c=>i q (ai (ai c)),B,C,λa d=>⟨(g a d).1,p (g a d).2.1 (g a d).2.2,(g a d).2.2⟩,λa d=>⟨(h a d).1,p (h a d).2.1 (h a d).2.2,(h a d).2.2⟩,i⟩
theorem lV.none(c:Nat)(P:Nat->Prop)(w:World):lV c [] [] [] none 0 0 none 0 0 none 0 0 P w:=
 ⟨0,[],[],⟨rfl,rfl,rfl⟩,eK _ _ _ _,eK _ _ _ _,eK _ _ _ _,rfl,rfl,λd b=>(by cases b),λd b=>(by cases b),λe a=>by
  rcases a with a|a|a<;>cases a⟩
def PI(r q:Nat)(name:ByteArray)(room:Int)(s:Tc)(ms:List Tc)(o:Nat)(M:Nat->Prop)(n:Nat)(l:List (Bh (n+1)))(self next:Int)(w:World)(e:Ending)(w':World):Prop:=
 (∃g,e=.returned (.tuple #[M0,ab g])/\Hid (g≠0/\g=rQ n room l name self next (cn 13 s) (ms.map (cn 13))/\aj w w'))\/
  ∃(a:Tc)(f:Int)(sa:Option Addr)(sl sc:Nat)(pa:Option Addr)(pl pc:Nat)(ka:Option Addr)(kl kc:Nat),e=.returned (.tuple #[OP a.1.1 a.1.2.1 a.1.2.2 a.2.1.1 a.2.2.length a.2.1.2 f sa sl sc pa pl pc ka kl kc,ab 0])/\Hid (∃b h d,rQ n room l name self next (cn 13 s) (ms.map (cn 13))=0/\nE room l name self next (cn 13 s) (ms.map (cn 13))=some b/\f=b.fate/\cn 13 a=b.message/\bz 13 a=0/\In w'.heap.size w' 13 a/\ch (λc=>w.heap.size<=c/\c<d) 13 a/\bT M w w'/\w.heap.size<d/\
   (∃i v p t u k m j,cH r q name room 13 i (ms.eraseIdx h) [] (o+402) (λc=>M c\/d<=c) w' v p t u k m j/\cn 13 i=b.state/\(ms.eraseIdx h).map (cn 13)=b.mail)/\lV (w.heap.size+1) b.sends b.spawns b.links sa sl sc pa pl pc ka kl kc (λ_=>True) w')
theorem N9{n:Nat}(room self next:Int)(s m:Tc)(ms:List Tc)(c:Cl (n+1))(b:List Tc):fp room self next s m ms c b={fp room self next s s ms c b with message:=m}:=by
 unfold fp;cases qj self c.2.2 ⟨b,next,[],[],[],false⟩with
 | none=>rfl
 | some e=>
  cases d:sO e.b self (n+1) c.1.2.2 with
  | none=>simp only[d]
  | some t=>
   simp only[d];by_cases a:(ms.map (sz 13)).sum+sz 13 t<=room
   ·simp only[if_pos a]
   ·simp only[if_neg a]
theorem Gq{n:Nat}{room self next:Int}{s m:Tc}{ms:List Tc}{c:Cl (n+1)}{b:List Tc}(a:¬((fp room self next s m ms c b).fate=0\/(fp room self next s m ms c b).fate=1)):(fp room self next s m ms c b).sends=[]/\(fp room self next s m ms c b).spawns=[]/\(fp room self next s m ms c b).links=[]:=by
 unfold fp at a ⊢;cases hd:qj self c.2.2 ⟨b,next,[],[],[],false⟩with
 | none=>exact⟨rfl,rfl,rfl⟩
 | some d=>
  rw[hd]at a;cases f:sO d.b self (n+1) c.1.2.2 with
  | none=>simp[f]
  | some t=>
   simp only[f]at a ⊢;by_cases e:(ms.map (sz 13)).sum+sz 13 t<=room
   ·simp only[if_pos e]at a;cases hst:d.stops<;>simp[hst]at a
   ·simp[if_neg e]
theorem Gp{n:Nat}(room self next:Int)(s m:Tc)(ms:List Tc)(c:Cl (n+1))(b:List Tc):(fp room self next s m ms c b).mail=ms:=by
 unfold fp;cases qj self c.2.2 ⟨b,next,[],[],[],false⟩with
 | none=>rfl
 | some e=>
  cases d:sO e.b self (n+1) c.1.2.2 with
  | none=>simp only[d]
  | some t=>
   simp only[d];by_cases a:(ms.map (sz 13)).sum+sz 13 t<=room
   ·simp only[if_pos a]
   ·simp only[if_neg a]
theorem qM.keptS{D:Nat}{l:List (Tm D)}{B:List Tc}{d:Nat}{w w':World}{b h:Nat}{S:Nat->Prop}(a:qM D l B d w b h)(c:bt S w w')(g:∀q,d<=q->¬S q):qM D l B d w' b h:=by
 obtain⟨e,f⟩:=a.new;refine⟨a.bnd,a.tells,a.cap,⟨e,aR f c.size⟩,λn t m=>?_,λo=>?_⟩
 ·obtain⟨p,r,j⟩:=a.at' n t m;exact⟨p.kee c f (g b e),r.kee c (j.mono λs k=>g s k.1),j⟩
 ·have i:=a.free o;unfold World.frozen? at i ⊢;rw[c.block b f (g b e)];exact i
theorem xg{n B:Nat}{w:World}{p:Option Addr}{l:List (Bh (n+1))}(j:gh (n+1) B w p l)(name:ByteArray):∃e d g,LV (n+1) (gd (n+1) name l)=ae e d g/\(gi name l).length=d/\p8 B w 13 (e9 (n+1)) (g8 (n+1) B w) e (gi name l)/\(gi name l=[]\/∃b∈l,gi name l=b.2.2):=by
 have k:∀(l:List (Bh (n+1))) b,gd (n+1) name l=some b->b∈l:=by
  intro l
  induction l with
  | nil=>intro b a;cases a
  | cons q l ih=>
   intro b a;simp only[gd]at a;split at a
   ·obtain rfl:=aw a;simp
   ·exact bM _ (ih b a)
 unfold gi;cases hb:gd (n+1) name l with
 | none=>exact⟨none,0,0,rfl,rfl,ah rfl,ah rfl⟩
 | some b=>
  have c:=k l b hb;refine⟨_,_,_,rfl,rfl,?_,ai ⟨b,c,rfl⟩⟩;rcases j with f|⟨s,o,f,r,h⟩
  ·rw[f]at c;cases c
  ·obtain⟨m,i⟩:=cW c;exact((h m b i).2).2.2
theorem cH.step{an J n:Nat}{name:ByteArray}{room:Int}{s:Tc}{ms:List Tc}{am:Nat}{M:Nat->Prop}{w:World}{ws:List Wd}{nm:List ByteArray}{bq:Wd}{vs:List Wd}{ma:Option Addr}{aD:Nat}{Mh:Nat->Prop}(S:cH an J name room 13 s ms [] am M w ws nm bq vs ma aD Mh)(l:List (Bh (n+1)))(Z:Option Addr)(L B:Nat)(a5:gh (n+1) B w Z l)(Q:B<=w.heap.size)(b5:l.length<=L)(bj:L<=maxLen)(bK:kA (n+1) l=true->(ay (n+6) (bW n l)).length<=2097152)(R:∀b,M b->b<w.heap.size)(bL:∀W,bt M w W->gh (n+1) B W Z l)(cy:am<=47000)(ct:ms.length<=999)(cu:an<=w.heap.size)(self next:Int):ak 45 #[aC J,ae Z l.length L,ab self,ab next] w (PI an J name room s ms am M n l self next w):=by
 obtain⟨b9,ca⟩:=S.box0 (N:=12);obtain⟨cK,cB,cE,bM,_⟩:=S.heap.box;obtain⟨bA,_,_,cr,cs,_⟩:=PL.cells bM;obtain⟨aW,bC,bd,bV,bS,bX,bU⟩:=xg a5 name;have cx:L<=9223372036854775807:=by unfold maxLen at bj;omega
 have bh:lP n l=0->(∀c∈gi name l,pZ c)/\(gi name l).length<=6:=λq=>by
  obtain⟨_,bk⟩:=Fs q;rcases bU with d|⟨b,r,d⟩
  ·rw[d];exact⟨λc bO=>(by cases bO),aH _⟩
  ·rw[d];exact⟨(bk b r).2,(bk b r).1⟩
 have a3:∀(g:Nat)(t:Tc),(ms.map (cn 13))[g]?=some t->g<ms.length:=λg t ar=>by
  have:=(aS.1 ar).1;simpa using this
 refine(Hw J name Z l.length L self next (lP n l) aW bC bd w (sj (gi name l) (cn 13 s) (ms.map (cn 13)) 0=none)
  (λg i c v F u=>∃j A E,aj w u/\(1<=self/\self<=99/\1<=next/\next<=92)/\lP n l=0/\sj (gi name l) (cn 13 s) (ms.map (cn 13)) 0=some (g,c,j)/\c∈gi name l/\(ms.map (cn 13))[g]?=some (cn 13 i)/\bz 13 i=0/\In u.heap.size u 13 i/\ch (λa=>w.heap.size<a/\a≠v) 13 i/\qM (A+1) E j (w.heap.size+1) u v F)
  (λg i c v F u=>∃j A E aQ aJ aM aO aA aE ap,cH an J name room 13 s (ms.eraseIdx g) [] am M u aQ aJ aM aO aA aE ap/\bT M w u/\(1<=self/\self<=99/\1<=next/\next<=92)/\lP n l=0/\sj (gi name l) (cn 13 s) (ms.map (cn 13)) 0=some (g,c,j)/\c∈gi name l/\(ms.map (cn 13))[g]?=some (cn 13 i)/\bz 13 i=0/\In u.heap.size u 13 i/\ch (λa=>w.heap.size<a/\a≠v) 13 i/\qM (A+1) E j (w.heap.size+1) u v F)
  (λg i c f sa sl sc pa pl pc ka kl kc P=>∃j aa,sj (gi name l) (cn 13 s) (ms.map (cn 13)) 0=some (g,c,j)/\(ms.map (cn 13))[g]?=some (cn 13 i)/\bz 13 i=0/\In P.heap.size P 13 i/\ch (λa=>w.heap.size<a/\a<aa) 13 i/\w.heap.size<aa/\bT M w P/\f=(fp room self next (cn 13 s) (cn 13 s) ((ms.eraseIdx g).map (cn 13)) c j).fate/\
   (∃O aQ aJ aM aO aA aE ap,cH an J name room 13 O (ms.eraseIdx g) [] (am+402) (λa=>M a\/aa<=a) P aQ aJ aM aO aA aE ap/\cn 13 O=(fp room self next (cn 13 s) (cn 13 s) ((ms.eraseIdx g).map (cn 13)) c j).state)/\
   lV (w.heap.size+1) (fp room self next (cn 13 s) (cn 13 s) ((ms.eraseIdx g).map (cn 13)) c j).sends (fp room self next (cn 13 s) (cn 13 s) ((ms.eraseIdx g).map (cn 13)) c j).spawns (fp room self next (cn 13 s) (cn 13 s) ((ms.eraseIdx g).map (cn 13)) c j).links sa sl sc pa pl pc ka kl kc (λ_=>True) P)
  _ M ca R (S.inM J b9) rfl ?_ bA ?_ ?_ ?_ ?_).mono ?_
 ·intro W k;refine(KZ n l Z L b5 bj B W (a5.below (k.mono Q)) (az Q k.size) bK).mono ?_;rintro d K ⟨i,rfl,x⟩;exact⟨_,_,_,_,_,_,rfl,x.1⟩
 ·intro W _ k;refine(uF (n+1) name l Z L l.length B W rfl (by omega) (az Q k.size) (a5.below (k.mono Q))).mono ?_;rintro d K ⟨rfl,r⟩;exact⟨by rw[bV],r⟩
 ·intro W q y k;simp only[aG,cd]at y;obtain⟨a6,b6⟩:=bh q;have bg:=C3 (S.later (N:=12) k) (gi name l) aW bd B ((cG (ey (n+1)) 13 (e9 (n+1)) aW).below (k.mono Q) bX) (az Q k.size) a6 (by omega) (by omega) (by omega);rw[bS]at bg;refine bg.mono ?_;rintro d K (⟨bI,rfl,x⟩|⟨g,i,c,v,F,rfl,x⟩)
  ·exact ah ⟨rfl,x,bI⟩
  ·obtain⟨j,A,E,G,H,z,I,bn,V,X,D⟩:=x.out;have cg:=k.size;have al:=D.new;have a2:=a3 g _ z;exact ai ⟨g,i,c,v,F,rfl,bn,by omega,al.2,by omega,j,A,E,k.trans (bn.mono cg),⟨y.1.1.1,y.1.1.2,y.1.2,y.2⟩,q,G,H,z,I,V,X.mono λa h=>⟨by omega,h.2⟩,D.mono (by omega)⟩
 ·rintro g i c v F u W ⟨j,A,E,aX,T,q,G,H,z,I,V,X,D⟩ k;have aY:=aX.trans (k.mono aX.size);have a2:=a3 g _ z;obtain⟨cL,cC,cF,bN,_⟩:=(S.later (N:=12) aY).heap.box;obtain⟨_,_,_,bB,bD,_⟩:=PL.cells bN;refine⟨ma,vs.length,aD,⟨bB,bD 7⟩,λbx av=>?_⟩;have be:=aY.trans (av.mono aY.size);refine((S.later (N:=12) be).delete (N:=12) g a2 (by omega)).mono ?_;rintro d K ⟨rfl,x⟩;obtain⟨cj,ck,cl,cm,a9⟩:=x.out;have cc:=aX.size;refine⟨ma,_,aD,rfl,cj,ck,cl,j,A,E,ws,nm,bq,_,ma,aD,Mh,cm,(aZ be M).trans a9 λ_ _ d=>d,T,q,G,H,z,I,?_,X,?_⟩
  ·exact(((V.below k).mono k.size |>.below av).mono av.size).kee (ik a9) (X.mono λa h e=>by have:=R a e;omega)
  ·exact((D.keptS (aK k (λ_=>False)) (λ_ _ d=>d)).keptS (aK av (λ_=>False)) (λ_ _ d=>d)).keptS (ik a9) λa h e=>by have:=R a e;omega
 ·rintro g i c v F u W ad ⟨j,A,E,aQ,aJ,aM,aO,aA,aE,ap,b8,a4,T,q,G,H,z,I,V,X,D⟩ k cv bf;obtain⟨a6,b6⟩:=bh q;have Y:=D.keptS (aK k (λ_=>False)) (λ_ _ d=>d);have al:=D.new;have cc:=a4.size;have cf:=k.size;have a2:=a3 g _ z;have cw:ad<W.heap.size:=(aF.1 bf).1;have bZ:ex (w.heap.size+1) ad self n A 0 next ⟨j,next,[],[],[],false⟩ W E v F [] [] (ae none 0 0) (ae none 0 0) (ae none 0 0):=by
   refine⟨bf,⟨by omega,by omega,al.1,Y.new.2,by omega⟩,Y.bnd,Y.tells,λU e p=>⟨(Y.at' U e p).1,(Y.at' U e p).2.1,(In.offB (D.at' U e p).2.2 (D.at' U e p).2.1).mono λa h=>⟨h.1.1,λm=>?_⟩⟩,Y.free,eK _ _ _ _,eK _ _ _ _,eK _ _ _ _,rfl,rfl,λe p=>(by cases p),λe p=>(by cases p),⟨⟨λd=>(by cases d),λd=>(by cases d),λd=>(by cases d)⟩,⟨λd=>(by cases d),λd=>(by cases d),λd=>(by cases d)⟩,λa=>⟨λd=>(by cases d),λd=>(by cases d)⟩⟩,⟨aH _,aH _,aH _,by simp,T.2.2.1,T.2.2.2⟩⟩;rcases m with m|m|m|m|m
   ·have:=h.2;omega
   ·exact h.1.2 m
   ·cases m
   ·cases m
   ·cases m
  have b4:bt M w W:=(ik a4).trans (aK k (λ_=>False)) λ_ _ d=>d.elim;have bR:g8 (n+1) B W c:=by
   obtain⟨_,_,_,_,_,bY,_⟩:=xg (bL W b4) name;rcases bY with d|⟨a,o,d,h,bQ⟩
   ·rw[d]at H;cases H
   ·obtain⟨U,b3⟩:=cW H;exact(bQ U c b3).2
  have bP:g8 (n+1) (w.heap.size+1) W c:=(ey (n+1)).mono (by omega) bR;have b0:(ms.eraseIdx g).length<=999:=by
   have:=List.length_eraseIdx_le ms g;omega
  have a1:=De (b:=j) (b8.later (N:=12) k) bZ rfl c bP (a6 c H) ⟨T.1,T.2.1⟩ (λa e=>by have:=R a e;omega) (by omega) (by omega) b0;have b1:ak 79 #[aC J,PN c,aC ad] W _:=a1;refine b1.mono ?_;rintro d K ⟨f,rfl,aU,aV,⟨O,aR,aL,aN,aP,aB,aI,aq,bb,bc⟩,bw⟩;have a0:∀a,lE ad v (ae none 0 0) (ae none 0 0) (ae none 0 0) a->a=ad\/a=v:=λa m=>by
   rcases m with m|m|m|m|m
   ·exact ah m
   ·exact ai m
   ·cases m
   ·cases m
   ·cases m
  have af:bT M w K:=(a4.trans (aZ k M) λ_ _ d=>d).trans (jw aV) λa h e=>by
   rcases e with e|e
   ·exact e
   ·rcases a0 a e with e|e<;>omega
  have ao:=In.offB X V
  have aT:In K.heap.size K 13 i:=((V.below k).mono cf).kee aV (ao.mono λa h e=>by
   rcases e with e|e
   ·have:=R a e;omega
   ·rcases a0 a e with e|e
    ·have:=h.2;omega
    ·exact h.1.2 e)
  have br:ch (λa=>w.heap.size<a/\a<W.heap.size) 13 i:=ao.mono λa h=>⟨h.1.1,by have:=h.2;omega⟩;refine⟨f,rfl,aV.mono λa _ e=>?_,λau=>?_,λau=>?_⟩
  ·rcases e with e|e
   ·exact ah e
   ·exact ai (a0 a e)
  ·obtain⟨bE,cA,cq,cp,bo,bp,cJ,cI,cD,C,bs,bu,ba,_⟩:=bw au;have bm:=C.sRow;have bl:=C.pRow;have bi:=C.lRow;have b2:=C.high;have a8:=C.sIn;have a7:=C.pIn;obtain⟨sa,sc,rfl⟩:=mJ bm;obtain⟨pa,pc,rfl⟩:=mJ bl;obtain⟨ka,kc,rfl⟩:=mJ bi;refine⟨_,_,_,_,sa,bo.length,sc,pa,bp.length,pc,ka,bE.links.length,kc,C.box,j,W.heap.size,G,z,I,aT,br,by omega,af,aU,⟨O,aR,aL,aN,aP,aB,aI,aq,bb,bc⟩,?_⟩;refine⟨A+1+n,bo,bp,⟨rfl,rfl,by rw[<-ba]⟩,bm,bl,by rw[<-ba];exact bi,C.sIs.trans bs,C.pIs.trans bu,λe p=>⟨(a8 e p).1,(a8 e p).2.1,(a8 e p).2.2.mono λa h=>⟨h.1,trivial⟩⟩,λe p=>⟨(a7 e p).1,(a7 e p).2.1,(a7 e p).2.2.mono λa h=>⟨h.1,trivial⟩⟩,λa h=>⟨b2 a (ai (ai h)),trivial⟩⟩
  ·rw[aU]at au;obtain⟨bF,bG,bH⟩:=Gq au;refine⟨j,W.heap.size,G,z,I,aT,br,by omega,af,aU,⟨O,aR,aL,aN,aP,aB,aI,aq,bb,bc⟩,?_⟩;rw[bF,bG,bH];exact lV.none _ _ _
 ·rintro d K (⟨co,rfl,x⟩|⟨g,i,c,f,sa,sl,sc,pa,pl,pc,ka,kl,kc,rfl,x⟩)
  ·obtain⟨r,ci⟩:=x.out;refine ah ⟨co,rfl,?_⟩;rcases ci with⟨rfl,ar⟩|⟨rfl,q,y⟩|⟨rfl,q,y,al⟩
   ·exact⟨ar,by unfold rQ;rw[if_pos ar],r⟩
   ·exact⟨by decide,by unfold rQ;rw[if_neg (λa=>a q),if_pos y],r⟩
   ·refine⟨by decide,?_,r⟩;have ax:nE room l name self next (cn 13 s) (ms.map (cn 13))=none:=by
     unfold nE;rw[al];rfl
    unfold rQ;rw[if_neg (λa=>a q),if_neg (by rw[y];decide),ax];rfl
  ·obtain⟨q,y,P,bx,⟨j,aa,G,z,I,aT,ao,bJ,af,a1,⟨O,aR,aL,aN,aP,aB,aI,aq,P1,bv⟩,cb⟩,ag,aw⟩:=x;have cz:=af.size;have ce:=ag.size;have b7:(ms.map (cn 13)).eraseIdx g=(ms.eraseIdx g).map (cn 13):=by simp[sR,List.map_take,List.map_drop]
   have ax:nE room l name self next (cn 13 s) (ms.map (cn 13))=some {fp room self next (cn 13 s) (cn 13 s) ((ms.eraseIdx g).map (cn 13)) c j with message:=cn 13 i}:=by
    unfold nE;rw[G];simp only[dB];rw[z,b7,mZ,N9]
   refine ai ⟨i,f,sa,sl,sc,pa,pl,pc,ka,kl,kc,rfl,_,g,aa,?_,ax,a1,rfl,I,((aT.below ag).mono ce).kee aw (ao.mono λa h d=>by omega),ao.mono λa h=>⟨by omega,h.2⟩,(af.trans (aZ ag M) λ_ _ d=>d).trans (jw aw) λb r d=>by omega,bJ,⟨O,aR,aL,aN,aP,aB,aI,aq,(P1.later (N:=12) ag).kept (N:=12) (jw aw) λb r _ d=>?_,bv,(Gp ..).symm⟩,(cb.kept (aK ag (λ_=>False)) λ_ _ _ _ d=>d).kept aw λa h _ _ d=>by omega⟩
   ·unfold rQ;rw[if_neg (λa=>a q),if_neg (by rw[y];decide),ax];rfl
   ·rcases r with r|r
    ·have:=R b r;omega
    ·omega
theorem F0(n:Nat)(x:Tm n):bz n x=0\/bz n x=2\/bz n x=5:=by
 rw[<-gn];unfold wS;split
 ·split
  ·exact ai (ah rfl)
  ·exact ah rfl
 ·exact ai (ai rfl)
section
variable {base pb:Nat} {name:ByteArray} {room:Int} {N n:Nat} {s:Tm (N+1)} {ms:List (Tm (N+1))} {nk:Nat} {M:Nat->Prop} {w:World} {ws:List Wd} {nm:List ByteArray} {sv:Wd} {vs:List Wd} {ma:Option Addr} {mc:Nat} {Mh:Nat->Prop}
theorem cH.putBad(k:cH base pb name room (N+1) s ms [] nk M w ws nm sv vs ma mc Mh)(x:Tm (n+1))(B:In w.heap.size w (n+1) x)(z:ch (λb=>¬M b) (n+1) x)(u:(ay (n+1) x).length<=2097152)(G:nk<=49000)(F:base<=w.heap.size)(o:bz (n+1) x≠0):ak 123 #[aC pb,dq (n+1) x] w λe w'=>e=.returned (.tuple #[.agg #[ab 0,ab 0],ab (bz (n+1) x)])/\aj w w':=by
 obtain⟨_,_,_,I,J,C,D,_⟩:=k.front;have H:=k.names;have l:jN (n+1) x room ws=bz (n+1) x:=by
  unfold jN;rw[if_pos o]
 have t:jN (n+1) x room ws≠6:=by
  rw[l];rcases F0 (n+1) x with e|e|e<;>rw[e]<;>decide
 have p:∀{h:Wd}{c:Int}{f i:World},yD (n+1) x base (PL pb name sv (ae ma vs.length mc)) room ws nm Mh h c f i->c≠0:=λg=>by
  rw[g.1,l];exact o
 refine(BR pb x.1.1 x.1.2.1 x.1.2.2 x.2.1.1 x.2.2.length x.2.1.2 w (λh c f i=>yD (n+1) x base (PL pb name sv (ae ma vs.length mc)) room ws nm Mh h c f i) (λ_ _=>False) (λ_ _ _ _=>False) ?_ ?_ ?_).mono ?_
 ·intro f d;have m:=d.size;have q:=k.later d;refine(uT (n+1) x base (PL pb name sv (ae ma vs.length mc)) room ws nm Mh f q.heap ((B.below d).mono m) (z.mono λb d g=>d (k.inM b g)) u (by omega) C D (by omega) (by omega)).mono ?_;intro e i g;obtain⟨h,c,rfl,a⟩:=zC g;refine⟨h,c,rfl,?_,a⟩;have j:=(a.2.1 (p a)).2;exact⟨j.size,λb _ _ r=>j.block b r⟩
 ·intro K f i L _ a _ _;exact absurd a.1.symm t
 ·intro _ _ _ a;exact a.elim
 ·rintro e w' ⟨h,c,rfl,⟨_,f,i,d,a,y⟩|⟨_,_,_,_,_,_,_,_,_,_,_,a,_⟩⟩
  ·obtain⟨A,j⟩:=a.2.1 (p a);have m:=d.size;have v:c=bz (n+1) x:=a.1.trans l;refine⟨by rw[v,A],(d.trans (j.mono m)).trans ((ik y).below (by have:=j.size;omega) λb E g=>by omega)⟩
  ·exact a.elim
theorem cH.deliverBad(f:cH base pb name room (N+1) s ms [] nk M w ws nm sv vs ma mc Mh)(x:Tm (n+1))(v:In w.heap.size w (n+1) x)(t:ch (λb=>¬M b) (n+1) x)(p:(ay (n+1) x).length<=2097152)(r:nk<=49000)(q:base<=w.heap.size)(k:bz (n+1) x≠0):ak 85 #[aC pb,dq (n+1) x] w λe w'=>e=.returned (ab (if 20<=ms.length then 2 else bz (n+1) x))/\aj w w':=by
 have z:=f.len;obtain⟨A,u⟩:=f.box0;refine(rk pb x.1.1 x.1.2.1 x.1.2.2 x.2.1.1 x.2.2.length x.2.1.2 vs.length mc ma w (λ_ l h d=>l=bz (n+1) x/\aj h d) (λ_ _ _ _ _ _=>False) u ?_ ?_ ?_).mono ?_
 ·intro d a;obtain⟨D,B,C,i,_⟩:=(f.later a).heap.box;exact(PL.cells i).2.2.2.1
 ·intro h a;have g:=a.size;refine((f.later a).putBad x ((v.below a).mono g) t p r (az q g) k).mono ?_;rintro e d ⟨rfl,c⟩;exact⟨(0,0),_,rfl,⟨c.size,λb _ _ j=>c.block b j⟩,rfl,c⟩
 ·rintro y h d ⟨e,_⟩;exact absurd e.symm k
 ·rintro e w' ⟨i,m⟩;by_cases o:20<=vs.length
  ·obtain⟨rfl,a⟩:=i o;exact⟨by rw[if_pos (by omega)],a⟩
  ·obtain⟨y,l,h,d,rfl,a,⟨rfl,c⟩,j,_⟩:=m (by omega);have g:=a.size;exact⟨by rw[if_neg (by omega)],(a.trans (c.mono g)).trans ((j k).mono (by have:=c.size;omega))⟩
end
def nt(n:Nat)(x:Tm n)(room:Int)(s:Tc)(ms:List Tc):Int:=if 20<=ms.length then 2 else if bz n x≠0 then bz n x else if aL n x=false then 5 else if ((s::ms).map (sz 13)).sum+sz n x<=room then 0 else 6
theorem ER{l:List Tc}(a:∀y∈l,bz 13 y=0):((l.map (cn 13)).map (sz 13)).sum=(l.map (sz 13)).sum:=by
 rw[gz];congr 1;exact jl λy b=>ES (a y b)
section
variable {base pb:Nat} {name:ByteArray} {room:Int} {n:Nat} {s:Tc} {ms:List Tc} {nk:Nat} {M:Nat->Prop} {w:World} {ws:List Wd} {nm:List ByteArray} {sv:Wd} {vs:List Wd} {ma:Option Addr} {mc:Nat} {Mh:Nat->Prop}
theorem cH.deliverC(f:cH base pb name room 13 s ms [] nk M w ws nm sv vs ma mc Mh)(x:Tm (n+1))(C:In w.heap.size w (n+1) x)(B:ch (λb=>¬M b) (n+1) x)(J:(ay (n+1) x).length<=2097152)(I:∀b,M b->b<w.heap.size)(A:nk<=49000)(G:ms.length<=999)(v:base<=w.heap.size):ak 85 #[aC pb,dq (n+1) x] w λe w'=>e=.returned (ab (nt (n+1) x room (cn 13 s) (ms.map (cn 13))))/\Hid (∃D q m o p k l h,cH base pb name room 13 s D [] (nk+201) (λb=>M b\/w.heap.size<=b) w' q m o p k l h/\bT M w w'/\D.map (cn 13)=if nt (n+1) x room (cn 13 s) (ms.map (cn 13))=0 then ms.map (cn 13)++ [cn (n+1) x]else ms.map (cn 13)):=by
 have L:∀r∈s::ms,bz 13 r=0:=λr Q=>((f.front (N:=12)).2.2.1 r Q).1;have O:((cn 13 s::ms.map (cn 13)).map (sz 13)).sum=((s::ms).map (sz 13)).sum:=ER L;by_cases a:bz (n+1) x=0
 ·have j:aD ⟨n+1,x⟩:=aM.2 (bB.1 a).1;have i:fD (n+1) x<13:=by have:=(bB.1 a).2.1;omega
  have g:=jx 13 (n+1) x j i;have y:bz 13 (aT 13 (n+1) x)=0:=(bQ g).trans a;have z:=f.deliver (N:=12) (aT 13 (n+1) x) (sC 13 (n+1) x _ _ j i C) (t8 13 (n+1) x _ j i B) (fi y) I A G v;have d:yY 13 (aT 13 (n+1) x) room s ms=nt (n+1) x room (cn 13 s) (ms.map (cn 13)):=by
   unfold yY nt sE;rw[O,ee,y,a,cF _ _ _ _ g,lO _ _ _ _ g]
  have P:dq (12+1) (aT (12+1) (n+1) x)=dq (n+1) x:=zo 12 n x;rw[P]at z;refine z.mono ?_;rintro e w' ⟨rfl,E⟩;obtain⟨q,m,o,p,k,l,h,F,K⟩:=E;refine⟨congrArg (λS=>Ending.returned (ab S)) d,_,q,m,o,p,k,l,h,F,K,?_⟩;have H:yY (12+1) (aT (12+1) (n+1) x) room s ms=nt (n+1) x room (cn 13 s) (ms.map (cn 13)):=d;rw[H];by_cases c:nt (n+1) x room (cn 13 s) (ms.map (cn 13))=0
  ·rw[if_pos c,if_pos c,iy];congr 1;exact congrArg (λt=> [t]) (ii g)
  ·rw[if_neg c,if_neg c]
 ·have d:nt (n+1) x room (cn 13 s) (ms.map (cn 13))=if 20<=ms.length then 2 else bz (n+1) x:=by
    unfold nt;rw[ee,if_pos a]
  have c:nt (n+1) x room (cn 13 s) (ms.map (cn 13))≠0:=by
   rw[d];split
   ·decide
   ·exact a
  refine(f.deliverBad (N:=12) x C B J A v a).mono ?_;rintro e w' ⟨rfl,u⟩;refine⟨by rw[d],ms,ws,nm,sv,vs,ma,mc,Mh,(f.later (N:=12) u).mono (N:=12) (λb R=>ah R) (by omega),aZ u M,?_⟩;rw[if_neg c]
end
theorem Kc{n:Nat}{x:Tm (n+1)}(room:Int)(name:ByteArray)(b:bz (n+1) x=0):fY 13 (aT 13 (n+1) x) room name=fY (n+1) x room name:=by
 have d:aD ⟨n+1,x⟩:=aM.2 (bB.1 b).1;have c:fD (n+1) x<13:=by have:=(bB.1 b).2.1;omega
 have a:=jx 13 (n+1) x d c;unfold fY jN;rw[bQ a,cF _ _ _ _ a,lO _ _ _ _ a]
theorem Pd(n:Nat)(x:Tm (n+1))(room:Int)(name:ByteArray)(w:World)(m:name.size<=9223372036854775807)(o:In w.heap.size w (n+1) x)(q:(ay (n+1) x).length<=2097152):ak 42 #[af name,dq (n+1) x,ab room] w λe w'=>(fY (n+1) x room name≠0->e=.returned (.tuple #[.pointer none,ab (fY (n+1) x room name)])/\aj w w')/\ (fY (n+1) x room name=0->∃d,e=.returned (.tuple #[aC d,ab 0])/\Hid (w.heap.size<=d/\aj w w'/\bz (n+1) x=0/\∃s ws nm h Mh,cn 13 s=cn (n+1) x/\cH w.heap.size d name room 13 s [] [] 201 (λb=>w.heap.size<=b/\b<w'.heap.size) w' ws nm h [] none 0 Mh)):=by
 by_cases c:bz (n+1) x=0
 ·have k:aD ⟨n+1,x⟩:=aM.2 (bB.1 c).1;have j:fD (n+1) x<13:=by have:=(bB.1 c).2.1;omega
  have l:=jx 13 (n+1) x k j;have r:bz 13 (aT 13 (n+1) x)=0:=(bQ l).trans c;have i:=BO 12 (aT 13 (n+1) x) room name w m (sC 13 (n+1) x _ _ k j o) (fi r);have u:dq (12+1) (aT (12+1) (n+1) x)=dq (n+1) x:=zo 12 n x;rw[u]at i;refine i.mono ?_;rintro e w' ⟨f,g⟩;have t:fY (12+1) (aT (12+1) (n+1) x) room name=fY (n+1) x room name:=Kc room name c;rw[t]at f g;refine⟨f,λa=>?_⟩;obtain⟨d,rfl,p⟩:=g a;obtain⟨v,y,ws,nm,h,Mh,z⟩:=p;exact⟨d,rfl,v,y,c,_,ws,nm,h,Mh,ii l,z⟩
 ·refine(BO n x room name w m o q).mono ?_;rintro e w' ⟨f,g⟩;refine⟨f,λa=>?_⟩;unfold fY at a;split at a
  ·cases a
  ·split at a
   ·cases a
   ·unfold jN at a;rw[if_pos c]at a;exact absurd a c
def P1(e l:Nat)(name:ByteArray)(room:Int)(cs:Tc)(g:List Tc)(k:Nat)(M:Nat->Prop)(w:World):Prop:=
 ∃a d c o j m n h i f,cH a l name room 13 d c [] k M w o j m n h i f/\(cn 13 d=cs/\c.map (cn 13)=g)/\a<=w.heap.size/\∀b,M b->e<=b/\b<w.heap.size
section
variable {B0 pb:Nat} {name:ByteArray} {room:Int} {cs:Tc} {cms:List Tc} {k:Nat} {M:Nat->Prop} {w:World}
theorem P1.later(g:P1 B0 pb name room cs cms k M w){w1:World}(c:aj w w1):P1 B0 pb name room cs cms k M w1:=by
 obtain⟨f,o,m,r,n,p,q,j,l,e,h,i,s,a⟩:=g;have t:=c.size;exact⟨f,o,m,r,n,p,q,j,l,e,h.later (N:=12) c,i,by omega,λb d=>⟨(a b d).1,by have:=(a b d).2;omega⟩⟩
theorem P1.kept(g:P1 B0 pb name room cs cms k M w){S:Nat->Prop}{w1:World}(d:bT S w w1)(j:∀b,M b->¬S b):P1 B0 pb name room cs cms k M w1:=by
 obtain⟨f,p,n,s,o,q,r,l,m,e,h,i,t,c⟩:=g;have u:=d.size;exact⟨f,p,n,s,o,q,r,l,m,e,h.kept (N:=12) d λb a _=>j b a,i,by omega,λb a=>⟨(c b a).1,by have:=(c b a).2;omega⟩⟩
def mM(M:Nat->Prop)(w w':World)(b:Nat):Prop:=(M b\/w.heap.size<=b)/\b<w'.heap.size
theorem P1.ok(h:P1 B0 pb name room cs cms k M w):bz 13 cs=0/\aL 13 cs=true/\(∀m∈cms,bz 13 m=0/\aL 13 m=true)/\((cs::cms).map (sz 13)).sum<=room:=by
 obtain⟨q,b,f,z,v,x,y,t,u,p,i,⟨rfl,rfl⟩,r,s⟩:=h;obtain⟨_,_,e,n,o,_⟩:=i.front (N:=12);have j:∀a∈b::f,bz 13 a=0:=λa d=>(e a d).1;have c:=e b (by simp);refine⟨nY c.1,(mj c.1).trans c.2,λm l=>?_,?_⟩
 ·obtain⟨a,d,rfl⟩:=b9.1 l;have:=e a (bM _ d);exact⟨nY this.1,(mj this.1).trans this.2⟩
 ·have g:((cn 13 b::f.map (cn 13)).map (sz 13)).sum=((b::f).map (sz 13)).sum:=ER j;rw[g];exact Int.le_trans n o
theorem P1.deliver(j:P1 B0 pb name room cs cms k M w){n:Nat}(x:Tm (n+1))(t:In w.heap.size w (n+1) x)(s:ch (λb=>¬M b) (n+1) x)(q:(ay (n+1) x).length<=2097152)(r:k<=49000)(m:cms.length<=999)(G:B0<=w.heap.size):ak 85 #[aC pb,dq (n+1) x] w λe w'=>e=.returned (ab (nt (n+1) x room cs cms))/\Hid (bT M w w'/\P1 B0 pb name room cs (if nt (n+1) x room cs cms=0 then cms++ [cn (n+1) x]else cms) (k+201) (mM M w w') w'):=by
 obtain⟨i,A,J,P,K,L,O,H,I,E,l,⟨rfl,rfl⟩,c,d⟩:=j;refine(l.deliverC x t s q (λb a=>(d b a).2) r (by simpa using m) c).mono ?_;rintro e w' ⟨rfl,h⟩;obtain⟨y,D,z,B,C,u,v,F,o,f,p⟩:=h;refine⟨rfl,f,i,A,y,D,z,B,C,u,v,_,o.inside (N:=12),⟨rfl,p⟩,az c f.size,λb a=>⟨?_,a.2⟩⟩;rcases a.1 with g|g
 ·exact(d b g).1
 ·omega
theorem P1.state(d:P1 B0 pb name room cs cms k M w)(g:k<=50000):ak 34 #[aC pb] w λe w'=>∃y:Tc,e=.returned (dq 13 y)/\Hid (aj w w'/\In w'.heap.size w' 13 y/\ch (λq=>w.heap.size<=q) 13 y/\bz 13 y=0/\cn 13 y=cs):=by
 obtain⟨l,h,r,v,s,t,u,o,p,j,a,⟨rfl,rfl⟩,m,n⟩:=d;have f:=(a.front (N:=12)).2.2.1 h (by simp);refine(a.state (N:=12) g).mono ?_;rintro e w' ⟨y,rfl,c⟩;obtain⟨y1,y2,i,b⟩:=c;exact⟨y,rfl,y1,y2,i,(bQ b).trans f.1,ii b⟩
end
section
variable {B0 pb:Nat} {name:ByteArray} {room:Int} {cs:Tc} {cms:List Tc} {k:Nat} {M:Nat->Prop} {w:World}
theorem P1.mono(f:P1 B0 pb name room cs cms k M w){M':Nat->Prop}{c a:Nat}(j:∀b,M b->M' b)(m:k<=c)(l:∀b,M' b->a<=b/\b<w.heap.size):P1 a pb name room cs cms c M' w:=by
 obtain⟨e,r,p,u,q,s,t,n,o,d,g,h,i,_⟩:=f;exact⟨e,r,p,u,q,s,t,n,o,d,g.mono (N:=12) j m,h,i,l⟩
def PJ(B0 pb:Nat)(name:ByteArray)(room:Int)(cs:Tc)(cms:List Tc)(k:Nat)(M:Nat->Prop)(n:Nat)(l:List (Bh (n+1)))(self next:Int)(w:World)(e:Ending)(w':World):Prop:=
 (∃g,e=.returned (.tuple #[M0,ab g])/\Hid (g≠0/\g=rQ n room l name self next cs cms/\aj w w'))\/
  ∃(a:Tc)(f:Int)(sa:Option Addr)(sl sc:Nat)(pa:Option Addr)(pl pc:Nat)(ka:Option Addr)(kl kc:Nat),e=.returned (.tuple #[OP a.1.1 a.1.2.1 a.1.2.2 a.2.1.1 a.2.2.length a.2.1.2 f sa sl sc pa pl pc ka kl kc,ab 0])/\Hid (∃c d,rQ n room l name self next cs cms=0/\nE room l name self next cs cms=some c/\f=c.fate/\cn 13 a=c.message/\bz 13 a=0/\In w'.heap.size w' 13 a/\ch (λh=>w.heap.size<=h/\h<d) 13 a/\bT M w w'/\w.heap.size<d/\
   P1 B0 pb name room c.state c.mail (k+402) (λb=>(M b\/d<=b)/\b<w'.heap.size) w'/\c.mail.length<=cms.length/\lV (w.heap.size+1) c.sends c.spawns c.links sa sl sc pa pl pc ka kl kc (λ_=>True) w')
theorem P1.step(D:P1 B0 pb name room cs cms k M w){n:Nat}(l:List (Bh (n+1)))(a:Option Addr)(c B:Nat)(K:gh (n+1) B w a l)(G:B<=w.heap.size)(L:l.length<=c)(O:c<=maxLen)(H:kA (n+1) l=true->(ay (n+6) (bW n l)).length<=2097152)(I:∀W,bt M w W->gh (n+1) B W a l)(al:B0<=w.heap.size)(J:k<=47000)(F:cms.length<=999)(self next:Int):ak 45 #[aC pb,ae a l.length c,ab self,ab next] w (PJ B0 pb name room cs cms k M n l self next w):=by
 obtain⟨C,ap,S,av,ao,aq,ar,am,an,af,E,⟨rfl,rfl⟩,i,j⟩:=D;refine(E.step l a c B K G L O H (λb d=>(j b d).2) I J (by simpa using F) i self next).mono ?_;rintro aj au (⟨Y,rfl,e⟩|⟨ad,f,sa,sl,sc,pa,pl,pc,ka,kl,kc,rfl,e⟩)
 ·exact ah ⟨Y,rfl,e⟩
 ·obtain⟨X,P,o,p,r,s,t,u,v,x,g,y,⟨U,aa,T,V,Z,Q,R,ag,z,A,h⟩,q⟩:=e;refine ai ⟨ad,f,sa,sl,sc,pa,pl,pc,ka,kl,kc,rfl,X,o,p,r,s,t,u,v,x,g,y,⟨C,U,_,aa,T,V,Z,Q,R,_,z.inside (N:=12),⟨A,h⟩,az i g.size,λb d=>⟨?_,d.2⟩⟩,?_,q⟩
  ·rcases d.1 with m|m
   ·exact(j b m).1
   ·omega
  ·rw[<-h,ee,ee];exact List.length_eraseIdx_le S P
end
theorem P1.new(n:Nat)(x:Tm (n+1))(room:Int)(name:ByteArray)(w:World)(m:name.size<=9223372036854775807)(o:In w.heap.size w (n+1) x)(k:(ay (n+1) x).length<=2097152):ak 42 #[af name,dq (n+1) x,ab room] w λe w'=>∃p:Option Addr,e=.returned (.tuple #[.pointer p,ab (fY (n+1) x room name)])/\Hid (aj w w'/\(fY (n+1) x room name≠0->p=none)/\(fY (n+1) x room name=0->∃a,p=some ⟨a,0,none⟩/\w.heap.size<=a/\bz (n+1) x=0/\P1 w.heap.size a name room (cn (n+1) x) [] 201 (λb=>w.heap.size<=b/\b<w'.heap.size) w')):=by
 refine(Pd n x room name w m o k).mono ?_;rintro e w' ⟨i,j⟩;by_cases c:fY (n+1) x room name=0
 ·obtain⟨a,rfl,g⟩:=j c;obtain⟨q,f,r,v,z,u,y,h,s,t⟩:=g;exact⟨some ⟨a,0,none⟩,by rw[c],f,λd=>absurd c d,λ_=>⟨a,rfl,q,r,w.heap.size,v,[],z,u,y,[],none,0,h,t,⟨s,rfl⟩,f.size,λb d=>d⟩⟩
 ·obtain⟨rfl,l⟩:=i c;exact⟨none,rfl,l,λ_=>rfl,λd=>absurd d c⟩
def iV(x y:Int):Int×Int:=(min x y,max x y)
def qt:List Int:=(List.range 99).map λi:Nat=>(i:Int)+1
theorem Bv{y:Int}:y∈qt ↔ 1<=y/\y<=99:=by
 simp only[qt,b9,List.mem_range];constructor
 ·rintro ⟨c,b,rfl⟩;omega
 ·intro a;exact⟨(y-1).toNat,by omega,by omega⟩
theorem ov:qt.length=99:=by simp[qt]
theorem DU:qt.Nodup:=by
 unfold qt;refine List.Pairwise.map _ ?_ List.nodup_range;intro c b a d;exact a (by omega)
theorem Ks(i:Nat)(a:i<99):qt[i]?=some ((i:Int)+1):=by simp[qt,a]
def qL(g:Int×Int->Bool)(x:Int):List Int:=qt.filter λy=>g (iV x y)
def Aq(g:Int×Int->Bool):Prop:=∀k,g k=true->1<=k.1/\k.1<k.2/\k.2<=99
theorem jo{g:Int×Int->Bool}{x y:Int}:y∈qL g x ↔ (1<=y/\y<=99)/\g (iV x y)=true:=by
 rw[qL,List.mem_filter,Bv]
theorem oV(g:Int×Int->Bool)(x:Int):(qL g x).Nodup:=DU.sublist List.filter_sublist
theorem vy(g:Int×Int->Bool)(x:Int):(qL g x).length<=99:=by
 have:=List.length_filter_le (λa=>g (iV x a)) qt;rw[ov]at this;exact this
theorem gP(x y:Int):iV x y=(x,y)/\x<=y\/iV x y=(y,x)/\y<=x:=by
 rcases Int.le_total x y with a|a
 ·exact ah ⟨by simp[iV,Int.min_eq_left a,Int.max_eq_right a],a⟩
 ·exact ai ⟨by simp[iV,Int.min_eq_right a,Int.max_eq_left a],a⟩
theorem GW{g:Int×Int->Bool}(c:Aq g){x y:Int}(b:g (iV x y)=true):(1<=x/\x<=99)/\(1<=y/\y<=99)/\x≠y:=by
 have:=c _ b;rcases gP x y with⟨a,_⟩|⟨a,_⟩<;>(rw[a]at this;simp at this;omega)
theorem BD{g:Int×Int->Bool}(b:Aq g)(x:Int):x∉qL g x:=λa=>(GW b (jo.1 a).2).2.2 rfl
def wo(g:Int×Int->Bool)(l:List Int):Int×Int->Bool:=λk=>g k && !l.contains k.1 && !l.contains k.2
theorem sP{g:Int×Int->Bool}{l:List Int}{k:Int×Int}:wo g l k=true ↔ g k=true/\k.1∉l/\k.2∉l:=by
 simp[wo,and_assoc]
theorem Nx{g:Int×Int->Bool}{l:List Int}{x y:Int}:wo g l (iV x y)=true ↔ g (iV x y)=true/\x∉l/\y∉l:=by
 rw[sP];rcases gP x y with⟨d,_⟩|⟨d,_⟩
 ·rw[d]
 ·rw[d];constructor
  ·rintro ⟨a,b,c⟩;exact⟨a,c,b⟩
  ·rintro ⟨a,b,c⟩;exact⟨a,c,b⟩
theorem Aq.wo{g:Int×Int->Bool}(a:Aq g)(l:List Int):Aq (wo g l):=λk b=>a k (sP.1 b).1
theorem Po(g:Int×Int->Bool)(l r:List Int):wo (wo g l) r=wo g (l++r):=by
 funext k;rw[Bool.eq_iff_iff,sP,sP,sP];simp only[dl,not_or];constructor
 ·rintro ⟨⟨a,b,c⟩,d,e⟩;exact⟨a,⟨b,d⟩,c,e⟩
 ·rintro ⟨a,⟨b,d⟩,c,e⟩;exact⟨⟨a,b,c⟩,d,e⟩
def tF(g:Int×Int->Bool)(x:Int)(l:List Int):Int×Int->Bool:=l.foldl (λg y=>iI g (iV x y) false) g
theorem AQ{g:Int×Int->Bool}{x:Int}{l:List Int}{k:Int×Int}:tF g x l k=true ↔ g k=true/\∀y∈l,k≠iV x y:=by
 induction l generalizing g with
 | nil=>simp[tF]
 | cons y l ih=>
  have b:tF g x (y::l)=tF (iI g (iV x y) false) x l:=rfl;rw[b,ih];unfold iI;by_cases a:k=iV x y
  ·simp[a]
  ·simp[a]
theorem Ga(g:Int×Int->Bool)(x:Int)(l:List Int)(y:Int):tF g x (l++ [y])=iI (tF g x l) (iV x y) false:=by simp[tF]
theorem L7{g:Int×Int->Bool}(i:Aq g)(x:Int):tF g x (qL g x)=wo g [x]:=by
 funext k;rw[Bool.eq_iff_iff,AQ,sP];refine and_congr_right λd=>?_;have l:=i k d;simp only[dN];constructor
 ·intro e;refine⟨λb=>?_,λb=>?_⟩
  ·have c:k=iV x k.2:=by
     rcases gP x k.2 with⟨a,_⟩|⟨_,a⟩
     ·rw[a,<-b]
     ·omega
   exact e k.2 (jo.2 ⟨by omega,c▸d⟩) c
  ·have c:k=iV x k.1:=by
     rcases gP x k.1 with⟨_,a⟩|⟨a,_⟩
     ·omega
     ·rw[a,<-b]
   exact e k.1 (jo.2 ⟨by omega,c▸d⟩) c
 ·rintro ⟨f,h⟩ j _ b;rcases gP x j with⟨a,_⟩|⟨a,_⟩
  ·exact f (by rw[b,a])
  ·exact h (by rw[b,a])
/-! ### who is told -/
def zq(t l:List Int):List Int:=l.filter λy=> !t.contains y
def di(g:Int×Int->Bool)(x:Int):Nat->List Int
 | 0=>qL g x
 | i+1=>match (di g x i)[i]? with
  | some y=>di g x i++zq (di g x i) (qL (wo g (x::(di g x i).take i)) y)
  | none=>di g x i
def tu(g:Int×Int->Bool)(x:Int):List Int:=di g x 99
theorem rA{t l:List Int}{y:Int}:y∈zq t l ↔ y∈l/\y∉t:=by simp[zq]
structure Told (g:Int×Int->Bool) (x:Int) (l:List Int):Prop where
 nodup:l.Nodup
 self:x∉l
 rng:∀y∈l,1<=y/\y<=99
 from':∀i y,l[i]?=some y->∃k∈x::l.take i,y∈qL g k
theorem zu{t l:List Int}(c:t.Nodup)(d:l.Nodup)(e:∀y∈l,y∉t):(t++l).Nodup:=by
 rw[ft];exact⟨c,d,λh f b g a=>e b g (a▸f)⟩
theorem ti{l:List Int}{i:Nat}{y:Int}(c:l.Nodup)(g:l[i]?=some y):y∉l.take i:=by
 intro f;obtain⟨h,d,a⟩:=List.getElem_of_mem f;rw[dG]at d;rw[List.getElem_take]at a;obtain⟨e,b⟩:=aS.1 g;exact(List.pairwise_iff_getElem.1 c) h i (by omega) e (by omega) (a.trans b.symm)
theorem iZ{g:Int×Int->Bool}(e:Aq g)(x:Int):∀i,Told g x (di g x i)
 | 0=>⟨oV g x,BD e x,λy c=>(jo.1 c).1,λi y c=>⟨x,by simp,aJ c⟩⟩
 | i+1=>by
  have ih:=iZ e x i;unfold di;split
  ·rename_i y c;refine⟨zu ih.nodup ((oV _ _).sublist List.filter_sublist) λd b=>(rA.1 b).2,?_,?_,?_⟩
   ·intro a;rcases dl.1 a with a|a
    ·exact ih.self a
    ·have:=(Nx.1 (jo.1 (rA.1 a).1).2).2.2;simp at this
   ·intro d b;rcases dl.1 b with a|a
    ·exact ih.rng d a
    ·exact(jo.1 (rA.1 a).1).1
   ·intro j d b;rw[List.getElem?_append]at b;split at b
    ·rename_i h;obtain⟨k,l,m⟩:=ih.from' j d b;refine⟨k,?_,m⟩;rw[gV (by omega)];exact l
    ·rename_i h;have f:=rA.1 (aJ b);refine⟨y,?_,jo.2 ⟨(jo.1 f.1).1,(Nx.1 (jo.1 f.1).2).1⟩⟩;refine bM _ ?_;rw[List.take_append];refine List.mem_append_left _ ?_;rw[bA (by omega)];exact aJ c
  ·exact ih
theorem Kf{l:List Int}(a:l.Nodup):∀{r:List Int},(∀y∈l,y∈r)->l.length<=r.length:=by
 induction l with
 | nil=>simp
 | cons y l ih=>
  intro r b;rw[mU]at a;have c:=b y (by simp);have:=ih a.2 (r:=r.erase y) λe d=>(List.mem_erase_of_ne (λf:e=y=>a.1 (f▸d))).2 (b e (by simp[d]));rw[List.length_erase_of_mem c]at this;have:=List.length_pos_of_mem c;simp;omega
theorem Told.le{g:Int×Int->Bool}{x:Int}{l:List Int}(a:Told g x l):l.length<=99:=by
 have:=Kf a.nodup (r:=qt) λc b=>Bv.2 (a.rng c b);rwa [ov]at this
theorem qE{g:Int×Int->Bool}{x:Int}{i:Nat}(a:(di g x i).length<=i):∀j,di g x (i+j)=di g x i
 | 0=>rfl
 | j+1=>by
  have ih:=qE a j;have:di g x (i+j+1)=di g x (i+j):=by
   rw[di];rw[eI (by rw[ih];omega)]
  rw[<-Nat.add_assoc,this,ih]
theorem Ih{g:Int×Int->Bool}(e:Aq g){x:Int}{i:Nat}(d:(di g x i).length<=i):di g x i=tu g x:=by
 unfold tu;rcases Nat.le_total i 99 with a|a
 ·obtain⟨b,c⟩:=Nat.le.dest a;rw[<-c,qE d b]
 ·obtain⟨b,rfl⟩:=Nat.le.dest a;exact qE ((iZ e x 99).le) b
theorem Et{g:Int×Int->Bool}(a:Aq g)(x:Int):Told g x (tu g x):=iZ a x 99
theorem MK{x y u v:Int}:iV u v=iV x y ↔ (u=x/\v=y)\/(u=y/\v=x):=by
 rcases gP x y with⟨a,c⟩|⟨a,c⟩<;>rcases gP u v with⟨b,d⟩|⟨b,d⟩<;>(rw[a,b];simp only[eh];omega)
theorem Hf(i:Nat)(a:i<99):qt.take (i+1)=qt.take i++ [(i:Int)+1]:=by
 rw[du,Ks i a];rfl
def rF(g:Int×Int->Bool)(x:Int)(i:Nat):List Int:=(qt.take i).filter λy=>g (iV x y)
theorem GX(g:Int×Int->Bool)(x:Int)(i:Nat)(a:i<99):rF g x (i+1)=rF g x i++if g (iV x ((i:Int)+1))then [(i:Int)+1]else []:=by
 rw[rF,Hf i a,List.filter_append,List.filter_cons,List.filter_nil];rfl
theorem Kh(g:Int×Int->Bool)(x:Int):rF g x 99=qL g x:=by
 rw[rF,bA (by rw[ov];exact am _)];rfl
theorem BE(g:Int×Int->Bool)(x:Int)(i:Nat):(rF g x i).length<=i:=by
 have:=List.length_filter_le (λa=>g (iV x a)) (qt.take i);rw[dG]at this;unfold rF;omega
theorem GR(t l:List Int)(y:Int)(b:y∉l):zq t (l++ [y])=zq t l++if (t++zq t l).contains y then []else [y]:=by
 unfold zq;rw[List.filter_append,List.filter_cons,List.filter_nil];have a:(t++l.filter λy=> !t.contains y).contains y=t.contains y:=by
  rw[Bool.eq_iff_iff];simp[b]
 rw[a];cases t.contains y<;>rfl
structure SM (base mb n:Nat) (g:Int×Int->Bool) (w:World):Prop where
 lo:base<=mb
 map:∃D:DataW Value,w.ownsMap Tryz.prog 44 unitElem mb n D/\∀k,I2 k->has D (kl k)=g k
variable {base mb n:Nat} {g:Int×Int->Bool} {w:World}
theorem SM.lt(a:SM base mb n g w):base<=mb/\mb<w.heap.size:=by
 obtain⟨c,b,_⟩:=a.map;exact⟨a.lo,b.lt⟩
theorem SM.kee{S:Nat->Prop}{w':World}(a:SM base mb n g w)(k:bt S w w')(f:¬S mb):SM base mb n g w':=by
 obtain⟨c,b,e⟩:=a.map;refine⟨a.lo,c,?_,e⟩;have i:=b.lt;obtain⟨es,d,h,j⟩:=b;exact⟨es,d,(k.block mb i f).trans h,j⟩
theorem SM.later{w':World}(a:SM base mb n g w)(k:aj w w'):SM base mb n g w':=a.kee (aK k λ_=>False) id
theorem SM.rebase{a:Nat}(b:SM base mb n g w)(c:a<=base):SM a mb n g w:=⟨az c b.lo,b.map⟩
theorem SM.mono(b:SM base mb n g w){m:Nat}(f:n<=m):SM base mb m g w:=by
 obtain⟨c,a,d,e⟩:=b;exact⟨c,a,d.mono f,e⟩
theorem SM.new(w:World):SM w.heap.size w.heap.size 0 (λ_=>false) (w.alloc (.map #[] 0)):=
 ⟨am _,.map [],pB w _ _ _,λk _=>by simp[has]⟩
theorem CJ(w:World):(zeroValue 254).run Tryz.prog w=.ok (.agg #[]) w:=by kernel_rfl
theorem SM.look(b:SM base mb n g w){k:Int×Int}(a:I2 k):(Instr.lookup 70 (.map (some mb)) (pk k) true).run Tryz.prog w=.ok (.tuple #[.agg #[],.bool (g k)]) w:=by
 obtain⟨h,c,d⟩:=b.map;obtain⟨i,ps,e,f⟩:=c.look_ok dP underlying70 (CJ w) unitElem_mk (fj a);obtain⟨rfl,_⟩:=unitElem_inv f;rw[e,d k a]
theorem Ee(w:World){k:Int×Int}(b:I2 k):(Instr.lookup 70 (.map none) (pk k) true).run Tryz.prog w=.ok (.tuple #[.agg #[],.bool false]) w:=by
 have a:=look_nil (P:=Tryz.prog) (w:=w) true dP underlying70 (CJ w) (fj b);simpa using a
theorem SM.put(d:SM base mb n g w){k:Int×Int}(c:I2 k)(s:n<1000000):∃w2,(Instr.mapUpdate 70 (.map (some mb)) (pk k) (.agg #[])).run Tryz.prog w=.ok () w2/\SM base mb (n+1) (iI g k true) w2/\bt (λb=>b=mb) w w2/\w2.heap.size=w.heap.size:=by
 obtain⟨r,e,j⟩:=d.map;obtain⟨w2,o,m,q⟩:=e.store dP underlying70 (by unfold maxLen;omega) (fj c) unitElem_mk;obtain⟨l,p⟩:=jc q;refine⟨w2,o,⟨d.lo,_,m,λh f=>?_⟩,l,p⟩;by_cases a:h=k
 ·rw[a,cO,has_put_same e.isMap (dP.key (fj c))]
 ·rw[bS _ _ a,has_put_other λi=>a (lW f c i)];exact j h f
theorem SM.drop(c:SM base mb n g w){k:Int×Int}(e:I2 k)(ty:TypeId):∃w2,(Builtin.delete_ #[70,44] ty #[.map (some mb),pk k]).run Tryz.prog w=.ok (.tuple #[]) w2/\SM base mb n (iI g k false) w2/\bt (λb=>b=mb) w w2/\w2.heap.size=w.heap.size:=by
 obtain⟨r,i,j⟩:=c.map;obtain⟨w2,o,m,q⟩:=i.drop dP underlying70 (fj e) ty;obtain⟨l,p⟩:=jc q;refine⟨w2,o,⟨c.lo,_,m,λf d=>?_⟩,l,p⟩;by_cases a:f=k
 ·rw[a,cO,has_del_same]
 ·rw[bS _ _ a,has_del_other λh=>a (lW d e h)];exact j f d
/-! ### rows of numbers -/
def jM(l:List Int):List Value:=l.map (Value.int .i64)
theorem lK(l:List Int)(k:Int):jM (l++ [k])=jM l++ [ab k]:=by simp[jM]
def iG(base:Nat)(v:Value)(l:List Int)(w:World):Prop:=w.ownsRow base 3 1 v l.length (jM l)
def qO(v:Value)(l:List Int)(w:World):Prop:=∃a c,v=ae a l.length c/\(l=[]\/∃g o,a=some ⟨g,o,none⟩/\g<w.heap.size/\∀(i:Nat)(k:Int),l[i]?=some k->w.cell? ⟨g,o+i,none⟩=some (ab k))
theorem iG.row{v:Value}{l:List Int}(c:iG base v l w):qO v l w:=by
 have d:=c;rcases c.2 with⟨rfl,b⟩|⟨g,cap,i,rfl,_,e,_⟩
 ·exact⟨none,0,by rw[b],ah (bE b)⟩
 ·refine⟨some ⟨g,0,none⟩,cap,rfl,ai ⟨g,0,rfl,(aF.1 e).1,λh k f=>?_⟩⟩;have a:=d.cells (g:=g) rfl h (ab k) (by simp[jM,f]);rw[dZ,cX]at a;rw[cX];exact a
theorem iG.nil(base:Nat)(w:World):iG base (ae none 0 0) [] w:=⟨rfl,ah ⟨rfl,rfl⟩⟩
theorem iG.later{v:Value}{l:List Int}{w':World}(a:iG base v l w)(k:aj w w'):iG base v l w':=bk a (aK k λ_=>False) λ_ _ a=>a
theorem qO.later{v:Value}{l:List Int}{w':World}(a:qO v l w)(k:aj w w'):qO v l w':=by
 obtain⟨f,c,b,a⟩:=a;refine⟨f,c,b,?_⟩;rcases a with a|⟨g,o,b,d,a⟩
 ·exact ah a
 ·exact ai ⟨g,o,b,aR d k.size,λe i h=>(k.cell (p:=⟨g,o+e,none⟩) d).trans (a e i h)⟩
def nT(a:Int):Bool:=decide (1<=a) && decide (a<=99)
theorem mh(a:Int)(w:World):ak 162 #[ab a] w λe w'=>e=.returned (.bool (nT a))/\w'=w:=by
 go_enter func162,ntmps162;by_cases b:1<=a
 ·go_wp2_with fail
  go_ret
  exact⟨bP (by simp[nT,b]),rfl⟩
 ·go_wp2_with fail
  go_ret
  exact⟨bP (by simp[nT];omega),rfl⟩
theorem oK(x y:Int)(w:World):ak 157 #[ab x,ab y] w λe w'=>e=.returned (.agg #[ab (iV x y).1,ab (iV x y).2])/\aj w w':=by
 go_enter func157,ntmps157;go_wp2_with fail
 all_goals
  exact av (v:=.agg #[ab (iV x y).1,ab (iV x y).2]) (by simp[results,results157,go_sem,iV]<;>omega) rfl ⟨rfl,(ao _ _).alloc (am _) _⟩
theorem j0{base e sz n:Nat}{v:Value}{xs:List Value}{w d:World}{o:Obj}(f:w.ownsRow base e sz v n xs)(c:(w.alloc o).grownBy d v.ownBlock)(g:base<=w.heap.size):Below base w d:=by
 have a:Below base w (w.alloc o):=(ao _ _).alloc g _;refine⟨c.os.trans a.os,c.tape.trans a.tape,c.output.trans a.output,az a.size c.size,λb h=>(c.block b (by simp;omega) λe=>?_).trans (a.block b h)⟩;have:=(f.lt b e.symm).1;omega
theorem zy{x y:Int}(b:dx x)(c:dx y):I2 (iV x y):=by
 rcases gP x y with⟨a,_⟩|⟨a,_⟩<;>rw[a]
 ·exact⟨b,c⟩
 ·exact⟨c,b⟩
theorem Pb(b:Nat)(a:b<=1000):dx (b:Int):=by unfold dx;omega
theorem I7(g:Int×Int->Bool)(i:BL)(R:Option Nat)(x:Int)(w:World)(ai:i.b<w.heap.size)(ax:Hid (dx x))(af:Hid (w.cell? ⟨i.b,i.o,none⟩=some (.map R)))(s:Hid (∀k,I2 k->∀W,aj w W->(Instr.lookup 70 (.map R) (pk k) true).run Tryz.prog W=.ok (.tuple #[.agg #[],.bool (g k)]) W)):ak 156 #[.pointer (some ⟨i.b,i.o,none⟩),ab x] w λe w'=>∃v,e=.returned v/\Hid (iG w.heap.size v (qL g x) w'/\aj w w'):=by
 obtain⟨C,al,ar,au,av⟩:=bR Fc;have l:Hid (Tryz.prog.info? 3=some C/\C.zero=some (ab 0)/\C.size=1/\C.bytes=8):=⟨al,ar,au,av⟩;clear al ar au av;go_enter func156,ntmps156;go_wp2_with fail;go_loopw [5,6] (λv ad wr=>∃(b:Nat),1<=b/\b<=100/\ad=ab b/\(∃q d c,v=ae q d c/\d<=99/\Hid ((rF g x (b-1)).length=d/\wr.ownsRow w.heap.size 3 1 (ae q d c) d (jM (rF g x (b-1)))/\aj w wr))) (λ_ ad _=>100-(intOf ad).toNat)
 case atStart=>exact⟨1,by omega,by omega,rfl,none,0,0,rfl,by omega,rfl,⟨rfl,ah ⟨rfl,rfl⟩⟩,ao _ _⟩
 case round=>
  obtain⟨b,aE,F,rfl,q,d,c,rfl,Y,a⟩:=hrel;by_cases aC:b<=99
  ·have aD:(b:Int)<=99:=by omega
   have X:wr.cell? ⟨i.b,i.o,none⟩=some (.map R):=(a.2.2.cell (p:=⟨i.b,i.o,none⟩) ai).trans af;have ag:Hid (I2 (iV x b)):=zy ax (Pb b (by omega));have j:Hid (rF g x b=rF g x (b-1)++if g (iV x b)then [(b:Int)]else []):=by
    have y:=GX g x (b-1) (by omega);have ay:b-1+1=b:=by omega
    have az:((b-1:Nat):Int)+1=(b:Int):=by omega
    rw[ay,az]at y;exact y
   have O:=λW Z=>s (iV x b) ag W (a.2.2.trans (Below.mono Z a.2.2.size));have aa:=λW=>oK x b W;obtain⟨t,aq⟩:∃t,t=g (iV x b):=⟨_,rfl⟩;rw[<-aq]at O j;have V:=ap (show d<=b-1 by have:=BE g x (b-1);have:=a.1;omega);unfold pk at O;obtain⟨⟨aF,aG⟩,aB⟩:∃p,p=iV x b:=⟨_,rfl⟩;rw[<-aB]at O aa;have J:=ap aa;replace s:=ap O;have B:Hid (∀W,aj wr W->W.cell? ⟨i.b,i.o,none⟩=some (.map R)):=λW Z=>((a.2.2.trans (Below.mono Z a.2.2.size)).cell (p:=⟨i.b,i.o,none⟩) ai).trans af;have D:Hid (aj wr wr.drew):=(ao _ _).drew;have E:Hid (∀o:Obj,aj wr (wr.alloc o).drew):=λo=>((ao _ _).alloc (am _) o).drew;clear aq O aa ag;go_wp2_with fail
   go_region_held3 (λW=>W.cell? ⟨i.b,i.o,none⟩=some (.map R)) (first|(go_keep;done)|exact B _ D|exact B _ (E _)|exact B _ (f.alloc f.size _)|exact B _ f) ((first
    | (go_at_call 157;refine(J _).mono ?_;rintro e G ⟨rfl,F⟩;have f:=ap (D.trans (F.mono D.size));have U:=s _ f;have an:=s _ (f.alloc f.size (.cells #[] 254));clear F)
    | (go_at_call 157;refine(J _).mono ?_;rintro e G ⟨rfl,F⟩;have f:=ap ((E _).trans (F.mono (E _).size));have U:=s _ f;clear F)))
   ·obtain⟨h,r⟩:∃h,h=G.alloc (.cells #[] 254):=⟨_,rfl⟩;rw[<-r];have n:Hid (aj wr h):=by rw[r];exact f.alloc f.size _
    obtain⟨S,Q⟩:∃S,S=G.heap.size:=⟨_,rfl⟩;rw[<-Q];clear r an Q;have HB:=ap (a.2.2.trans (n.mono a.2.2.size));have m:=ap (bk a.2.1 (aK n λ_=>False) λ_ _ y=>y);have u:=ap a.1;have K:=ap HB.size;clear a f n s J B D E U X;cases t
    ·go_wp2_with fail;go_roundw
     case rel=>exact⟨b+1,by omega,by omega,by go_num,q,d,c,rfl,Y,by rw[eJ,j.out];simpa using u.out,by rw[eJ,j.out];simpa using m.out,HB.out⟩
     case measure=>simp[intOf];omega
    ·go_wp2_with (first
       | (at_builtin;refine wpList_append_lies _ rfl _ _ 25 rfl w.heap.size 3 C _ 1 8 underlying25 l.1 l.2.1 l.2.2.1 l.2.2.2 rfl (by decide) (ae q d c) d (jM (rF g x (b-1))) rfl (m.alloc _) ⟨h.heap.size,0,none⟩ 1 1 [ab b] rfl rfl (World.news_of_block (cs:= #[ab b]) (t:=3) (fr:=(0,0)) (aA h _)) (by simp[Value.oneCell']) (by decide) (by unfold maxLen;omega) (by omega) (by have:=K.out;simp;omega) _ rfl ?_;intro M L aw A z N P;have I:=ap A;have H:=ap (HB.trans (j0 m z HB.size));clear A z N P))
     go_roundw
     case rel=>
      refine⟨b+1,by omega,by omega,by go_num,some ⟨M,0,none⟩,d+1,L,rfl,by have:=V.out;omega,?_,?_,H⟩
      ·rw[eJ,j.out];simpa using u.out
      ·rw[eJ,j.out,if_pos rfl,lK];exact I
     case measure=>simp[intOf];omega
   ·obtain⟨h,r⟩:∃h,h=G.alloc (.cells #[] 254):=⟨_,rfl⟩;rw[<-r];have n:Hid (aj wr h):=by rw[r];exact f.alloc f.size _
    obtain⟨S,Q⟩:∃S,S=G.heap.size:=⟨_,rfl⟩;rw[<-Q];clear r Q;have HB:=ap (a.2.2.trans (n.mono a.2.2.size));have m:=ap (bk a.2.1 (aK n λ_=>False) λ_ _ y=>y);have u:=ap a.1;have K:=ap HB.size;clear a f n s J B D E U an X;cases t
    ·go_wp2_with fail;go_roundw
     case rel=>exact⟨b+1,by omega,by omega,by go_num,q,d,c,rfl,Y,by rw[eJ,j.out];simpa using u.out,by rw[eJ,j.out];simpa using m.out,HB.out⟩
     case measure=>simp[intOf];omega
    ·go_wp2_with (first
       | (at_builtin;refine wpList_append_lies _ rfl _ _ 25 rfl w.heap.size 3 C _ 1 8 underlying25 l.1 l.2.1 l.2.2.1 l.2.2.2 rfl (by decide) (ae q d c) d (jM (rF g x (b-1))) rfl (m.alloc _) ⟨h.heap.size,0,none⟩ 1 1 [ab b] rfl rfl (World.news_of_block (cs:= #[ab b]) (t:=3) (fr:=(0,0)) (aA h _)) (by simp[Value.oneCell']) (by decide) (by unfold maxLen;omega) (by omega) (by have:=K.out;simp;omega) _ rfl ?_;intro M L aw A z N P;have I:=ap A;have H:=ap (HB.trans (j0 m z HB.size));clear A z N P))
     go_roundw
     case rel=>
      refine⟨b+1,by omega,by omega,by go_num,some ⟨M,0,none⟩,d+1,L,rfl,by have:=V.out;omega,?_,?_,H⟩
      ·rw[eJ,j.out];simpa using u.out
      ·rw[eJ,j.out,if_pos rfl,lK];exact I
     case measure=>simp[intOf];omega
   ·obtain⟨h,r⟩:∃h,h=G:=⟨_,rfl⟩;subst r;have n:=ap f.out;have HB:=ap (a.2.2.trans (n.mono a.2.2.size));have m:=ap (bk a.2.1 (aK n λ_=>False) λ_ _ y=>y);have u:=ap a.1;have K:=ap HB.size;clear a f n s J B D E U X;cases t
    ·go_wp2_with fail;go_roundw
     case rel=>exact⟨b+1,by omega,by omega,by go_num,q,d,c,rfl,Y,by rw[eJ,j.out];simpa using u.out,by rw[eJ,j.out];simpa using m.out,HB.out⟩
     case measure=>simp[intOf];omega
    ·go_wp2_with (first
       | (at_builtin;refine wpList_append_lies _ rfl _ _ 25 rfl w.heap.size 3 C _ 1 8 underlying25 l.1 l.2.1 l.2.2.1 l.2.2.2 rfl (by decide) (ae q d c) d (jM (rF g x (b-1))) rfl (m.alloc _) ⟨h.heap.size,0,none⟩ 1 1 [ab b] rfl rfl (World.news_of_block (cs:= #[ab b]) (t:=3) (fr:=(0,0)) (aA h _)) (by simp[Value.oneCell']) (by decide) (by unfold maxLen;omega) (by omega) (by have:=K.out;simp;omega) _ rfl ?_;intro M L aw A z N P;have I:=ap A;have H:=ap (HB.trans (j0 m z HB.size));clear A z N P))
     go_roundw
     case rel=>
      refine⟨b+1,by omega,by omega,by go_num,some ⟨M,0,none⟩,d+1,L,rfl,by have:=V.out;omega,?_,?_,H⟩
      ·rw[eJ,j.out];simpa using u.out
      ·rw[eJ,j.out,if_pos rfl,lK];exact I
     case measure=>simp[intOf];omega
  ·obtain rfl:b=100:=by omega
   have T:=a.out;go_wp2_with fail
   go_ret
   refine⟨_,rfl,?_,T.2.2⟩;have e:=Kh g x;rw[show 100-1=99 from rfl]at T;rw[<-e];unfold iG;rw[T.1];exact T.2.1
def eP(base:Nat)(c:BL)(a:Option Nat)(n:Nat)(g:Int×Int->Bool)(w:World):Prop:=
 base<=c.b/\tC c a w/\((a=none/\g=λ_=>false)\/∃mb,a=some mb/\SM base mb n g w)
def LN(a:BL)(c:Option Nat)(b:Nat):Prop:=b=a.b\/c=some b
variable {base n:Nat} {bp:BL} {mo:Option Nat} {g:Int×Int->Bool} {w:World}
theorem eP.lt(d:eP base bp mo n g w)(b:Nat)(a:LN bp mo b):base<=b/\b<w.heap.size:=by
 rcases a with rfl|a
 ·exact⟨d.1,d.2.1.lt⟩
 ·rcases d.2.2 with⟨c,_⟩|⟨mb,c,e⟩
  ·rw[c]at a;cases a
  ·rw[c]at a;injection a with a;subst a;exact e.lt
theorem eP.kee{S:Nat->Prop}{w':World}(c:eP base bp mo n g w)(k:bt S w w')(d:∀b,LN bp mo b->¬S b):eP base bp mo n g w':=by
 refine⟨c.1,c.2.1.kept (k.block bp.b (c.lt bp.b (ah rfl)).2 (d bp.b (ah rfl))),?_⟩;rcases c.2.2 with a|⟨mb,a,e⟩
 ·exact ah a
 ·exact ai ⟨mb,a,e.kee k (d mb (ai a))⟩
theorem eP.later{w':World}(a:eP base bp mo n g w)(k:aj w w'):eP base bp mo n g w':=a.kee (aK k λ_=>False) λ_ _ a=>a
theorem eP.cell(a:eP base bp mo n g w):w.cell? ⟨bp.b,bp.o,none⟩=some (.map mo)/\w.frozen? ⟨bp.b,bp.o,none⟩=false:=⟨a.2.1.cell.1,a.2.1.cell.2 _⟩
theorem eP.look(b:eP base bp mo n g w){k:Int×Int}(a:I2 k):(Instr.lookup 70 (.map mo) (pk k) true).run Tryz.prog w=.ok (.tuple #[.agg #[],.bool (g k)]) w:=by
 rcases b.2.2 with⟨rfl,rfl⟩|⟨mb,rfl,c⟩
 ·exact Ee w a
 ·exact c.look a
theorem eP.ne{mb:Nat}(c:eP base bp (some mb) n g w):bp.b≠mb:=by
 intro e;rcases c.2.2 with⟨a,_⟩|⟨j,a,f⟩
 ·cases a
 ·injection a with a;subst a e;obtain⟨h,⟨es,i,d,_⟩,_⟩:=f.map;rw[c.2.1.2]at d;cases d
theorem LQ(a:eP base bp mo n g w){x:Int}(f:dx x):ak 156 #[.pointer (some ⟨bp.b,bp.o,none⟩),ab x] w λe w'=>∃v,e=.returned v/\Hid (iG w.heap.size v (qL g x) w'/\aj w w'):=
 I7 g bp mo x w (a.lt bp.b (ah rfl)).2 f a.cell.1 λ_ d _ c=>(a.later c).look d
theorem LS(mb:Nat)(W:World):(binOp .eql 70 (.map (some mb)) (.map none)).run Tryz.prog W=.ok (.bool false) W:=by kernel_rfl
theorem LR(W:World):(binOp .eql 70 (.map none) (.map none)).run Tryz.prog W=.ok (.bool true) W:=by kernel_rfl
theorem I5(bp:BL)(mb:Nat)(x y:Int)(w:World)(g:World->Prop)(v:bp.b<w.heap.size)(i:Hid (w.cell? ⟨bp.b,bp.o,none⟩=some (.map (some mb))))(l:Hid (nT x=true/\nT y=true))(C:x≠y)(k:Hid (∀W,aj w W->∃w2,(Instr.mapUpdate 70 (.map (some mb)) (.agg #[ab (iV x y).1,ab (iV x y).2]) (.agg #[])).run Tryz.prog W=.ok () w2/\w2.cell? ⟨bp.b,bp.o,none⟩=some (.map (some mb))/\Hid (g w2))):ak 122 #[.pointer (some ⟨bp.b,bp.o,none⟩),ab x,ab y] w λe w'=>e=.returned (ab 0)/\g w':=by
 have B:=i.out;have c:=λW=>mh x W;have d:=λW=>mh y W;have D:=LS mb;rw[l.out.1]at c;rw[l.out.2]at d;have n:=ap c;have q:=ap d;clear c d;have f:=λW=>oK x y W;obtain⟨⟨F,G⟩,A⟩:∃p,p=iV x y:=⟨_,rfl⟩;rw[<-A]at f k;have t:=ap f;clear f;have j:Hid (∀W,aj w W->W.cell? ⟨bp.b,bp.o,none⟩=some (.map (some mb))):=λW u=>(u.cell (p:=⟨bp.b,bp.o,none⟩) v).trans i;have a:Hid (aj w w.drew):=(ao _ _).drew;go_enter func122,ntmps122;go_wp2_with fail;refine(n _).mono ?_;rintro e H ⟨rfl,rfl⟩;go_wp2_with fail;refine(q _).mono ?_;rintro e w2 ⟨rfl,rfl⟩;go_wp2_with fail
 go_region_held3 (λW=>W.cell? ⟨bp.b,bp.o,none⟩=some (.map (some mb))) (first|(go_keep;done)|exact j _ a|exact j _ h|exact r) ((first
       | (go_at_call 157;refine(t _).mono ?_;rintro e I ⟨rfl,m⟩;have h:=ap (a.trans (m.mono a.size));obtain⟨J,E,z,s⟩:=k _ h;have r:=ap z;clear m)))
 go_wp2_with fail
 go_ret
 exact⟨rfl,s⟩
theorem FW(bp:BL)(x y:Int)(w w0:World)(g:World->Prop)(F:bp.b<w.heap.size)(s:Hid (w.cell? ⟨bp.b,bp.o,none⟩=some (.map none)/\w.frozen? ⟨bp.b,bp.o,none⟩=false))(l:Hid (nT x=true/\nT y=true))(H:x≠y)(n:w0=(w.setCell ⟨bp.b,bp.o,none⟩ (.map (some w.heap.size))).alloc (.map #[] 0))(i:Hid (w0.cell? ⟨bp.b,bp.o,none⟩=some (.map (some w.heap.size))))(B:bp.b<w0.heap.size)(k:Hid (∀W,aj w0 W->∃w2,(Instr.mapUpdate 70 (.map (some w.heap.size)) (.agg #[ab (iV x y).1,ab (iV x y).2]) (.agg #[])).run Tryz.prog W=.ok () w2/\w2.cell? ⟨bp.b,bp.o,none⟩=some (.map (some w.heap.size))/\Hid (g w2))):ak 122 #[.pointer (some ⟨bp.b,bp.o,none⟩),ab x,ab y] w λe w'=>e=.returned (ab 0)/\g w':=by
 obtain⟨E,f0⟩:=s;have c:=λW=>mh x W;have d:=λW=>mh y W;have I:=LR;have G:= @run_makeMap Tryz.prog;rw[l.out.1]at c;rw[l.out.2]at d;have q:=ap c;have r:=ap d;clear c d;have f:=λW=>oK x y W;obtain⟨⟨K,L⟩,D⟩:∃p,p=iV x y:=⟨_,rfl⟩;rw[<-D]at f k;have v:=ap f;have z:=ap n;clear f n;have j:Hid (∀W,aj w0 W->W.cell? ⟨bp.b,bp.o,none⟩=some (.map (some w.heap.size))):=λW A=>(A.cell (p:=⟨bp.b,bp.o,none⟩) B).trans i;have a:Hid (aj w0 w0.drew):=(ao _ _).drew;go_enter func122,ntmps122;go_wp2_with fail;refine(q _).mono ?_;rintro e M ⟨rfl,rfl⟩;go_wp2_with fail;refine(r _).mono ?_;rintro e w2 ⟨rfl,rfl⟩;go_wp2_with fail;rw[<-z.out];have d0:=i.out
 go_region_held3 (λW=>W.cell? ⟨bp.b,bp.o,none⟩=some (.map (some w2.heap.size))) (first|(go_keep;done)|exact j _ a|exact j _ h|exact t) ((first
       | (go_at_call 157;refine(v _).mono ?_;rintro e N ⟨rfl,m⟩;have h:=ap (a.trans (m.mono a.size));obtain⟨O,J,C,u⟩:=k _ h;have t:=ap C;clear m)))
 go_wp2_with fail
 go_ret
 exact⟨rfl,u⟩
theorem FV(bp:BL)(x y:Int)(w:World)(a:nT x=false\/nT y=false\/x=y):ak 122 #[.pointer (some ⟨bp.b,bp.o,none⟩),ab x,ab y] w λe w'=>e=.returned (ab 1)/\w'=w:=by
 have f:=λc=>mh x c;have g:=λc=>mh y c;obtain⟨d,h⟩:∃d,d=nT x:=⟨_,rfl⟩;obtain⟨b,i⟩:∃b,b=nT y:=⟨_,rfl⟩;rw[<-h]at f a;rw[<-i]at g a;have k:=ap f;have l:=ap g;have m:=ap a;clear f g h i a;go_enter func122,ntmps122;go_wp2_with fail;refine(k _).mono ?_;rintro e p ⟨rfl,rfl⟩;cases d
 ·go_wp2_with fail
  go_ret
  exact⟨rfl,rfl⟩
 ·go_wp2_with fail;refine(l _).mono ?_;rintro e q ⟨rfl,rfl⟩;cases b
  ·go_wp2_with fail
   go_ret
   exact⟨rfl,rfl⟩
  ·have j:x=y:=by simpa using m.out
   have n:=ap j;subst j;go_wp2_with fail
   go_ret
   exact⟨rfl,rfl⟩
variable {base n:Nat} {bp:BL} {mo:Option Nat} {g:Int×Int->Bool} {w:World}
def vk(x y:Int):Int:=if nT x=true/\nT y=true/\x≠y then 0 else 1
def NE(base:Nat)(bp:BL)(mo:Option Nat)(n:Nat)(g:Int×Int->Bool)(w w':World):Prop:=
 ∃a,eP base bp a n g w'/\bt (LN bp mo) w w'/\∀b,LN bp a b->LN bp mo b\/w.heap.size<=b
theorem eP.mono(b:eP base bp mo n g w){m:Nat}(c:n<=m):eP base bp mo m g w:=by
 refine⟨b.1,b.2.1,?_⟩;rcases b.2.2 with a|⟨mb,a,d⟩
 ·exact ah a
 ·exact ai ⟨mb,a,d.mono c⟩
theorem FU(a:eP base bp mo n g w){x y:Int}(z:dx x)(A:dx y)(v:n<1000000):ak 122 #[.pointer (some ⟨bp.b,bp.o,none⟩),ab x,ab y] w λe w'=>e=.returned (ab (vk x y))/\Hid (NE base bp mo (n+1) (if vk x y=0 then iI g (iV x y) true else g) w w'):=by
 have q:=a.lt bp.b (ah rfl);by_cases f:nT x=true/\nT y=true/\x≠y
 ·have p:vk x y=0:=if_pos f;rw[p,if_pos rfl];rcases a.2.2 with⟨rfl,rfl⟩|⟨mb,rfl,D⟩
  ·obtain⟨h,l⟩:∃h,h=(w.setCell ⟨bp.b,bp.o,none⟩ (.map (some w.heap.size))).alloc (.map #[] 0):=⟨_,rfl⟩;have G:bt (λb=>b=bp.b) w (w.setCell ⟨bp.b,bp.o,none⟩ (.map (some w.heap.size))):=bC w bp.b bp.o _;have s:(w.setCell ⟨bp.b,bp.o,none⟩ (.map (some w.heap.size))).heap.size=w.heap.size:=by simp[World.setCell]
   have F:bt (λb=>b=bp.b) w h:=by
    rw[l];exact bt.trans G (aK ((ao _ _).alloc (am _) _) λ_=>False) λ_ _ a=>a.elim
   have t:tC bp (some w.heap.size) h:=by
    rw[l];exact(a.2.1.set).kept (((ao _ _).alloc (am _) _).block bp.b (by rw[s];exact q.2))
   have H:h.heap.size=w.heap.size+1:=by rw[l,iB,s]
   have C:SM base w.heap.size n (λ_=>false) h:=by
    have u:=SM.new (w.setCell ⟨bp.b,bp.o,none⟩ (.map (some w.heap.size)));rw[s,<-l]at u;exact(u.rebase (by omega)).mono (aH _)
   refine(FW bp x y w h (λw'=>NE base bp none (n+1) (iI (λ_=>false) (iV x y) true) w w') q.2 a.cell ⟨f.1,f.2.1⟩ f.2.2 l t.cell.1 (by omega) ?_).mono λe w' a=>⟨a.1,a.2⟩;intro B d;obtain⟨m,r,i,k,E⟩:=(C.later d).put (zy z A) v;have j:tC bp (some w.heap.size) m:=(t.kept (d.block bp.b (by omega))).kept (k.block bp.b (by have:=d.size;omega) (by omega));refine⟨m,r,j.cell.1,some w.heap.size,⟨a.1,j,ai ⟨_,rfl,i⟩⟩,?_,λb c=>?_⟩
   ·refine bt.trans (bt.trans (F.mono λb _ e=>ah e) (aK d λ_=>False) λ_ _ a=>a.elim) k λb c e=>?_;omega
   ·rcases c with c|c
    ·exact ah (ah c)
    ·injection c with c;exact ai (by omega)
  ·refine(I5 bp mb x y w (λw'=>NE base bp (some mb) (n+1) (iI g (iV x y) true) w w') q.2 a.cell.1 ⟨f.1,f.2.1⟩ f.2.2 ?_).mono λe w' a=>⟨a.1,a.2⟩;intro B d;obtain⟨m,r,i,k,E⟩:=(D.later d).put (zy z A) v;have j:tC bp (some mb) m:=(a.2.1.kept (d.block bp.b (by omega))).kept (k.block bp.b (by have:=d.size;omega) a.ne);refine⟨m,r,j.cell.1,some mb,⟨a.1,j,ai ⟨_,rfl,i⟩⟩,?_,λb c=>ah c⟩;exact bt.trans (aK d _) k λb _ e=>ai (by rw[e])
 ·have p:vk x y=1:=if_neg f;rw[p,if_neg (by decide)];refine(FV bp x y w ?_).mono ?_
  ·cases h1:nT x
   ·exact ah rfl
   ·cases i:nT y
    ·exact ai (ah rfl)
    ·refine ai (ai ?_);by_cases e:x=y
     ·exact e
     ·exact absurd ⟨h1,i,e⟩ f
  ·rintro e w' ⟨rfl,rfl⟩;exact⟨rfl,mo,a.mono (fS n),bt.refl _ _,λb c=>ah c⟩
theorem Dp(a:Option Addr)(c:Nat)(l:List Int)(L:Nat)(y:Int)(w:World)(x:L<=1000000)(n:Hid (l.length=L))(q:Hid (∀(i:Nat)(k:Int),l[i]?=some k->∃g o,a=some ⟨g,o,none⟩/\w.cell? ⟨g,o+i,none⟩=some (ab k))):ak 158 #[ae a L c,ab y] w λe w'=>∃r:Int,e=.returned (ab r)/\w'=w/\Hid (decide (0<=r)=l.contains y):=by
 go_enter func158,ntmps158;go_wp2_with fail;go_loopw [8] (λi wr=>∃b:Nat,b<=L/\i=ab b/\wr=w/\Hid (y∉l.take b)) (λi _=>L-(intOf i).toNat)
 case atStart=>exact⟨0,aH _,rfl,rfl,by simp[Hid]⟩
 case round=>
  obtain⟨b,u,rfl,rfl,p⟩:=hrel;by_cases s:b<L
  ·obtain⟨k,j⟩:∃k,l[b]?=some k:=⟨l[b]'(by rw[n.out];exact s),aI _⟩;obtain⟨g,o,rfl,t⟩:=q b k j;have m:=ap j;clear j;have z:(0:Int)<=(b:Int):=by omega
   have A:(b:Int)<(L:Int):=by omega
   by_cases h:y=k
   ·have f:Hid (l.contains y=true):=by
      rw[h];exact List.contains_iff_mem.2 (aJ m)
    subst h;go_wp2_with fail
    go_ret
    exact⟨(b:Int),rfl,rfl,by rw[f.out];simp[Hid]⟩
   ·have f:Hid (y∉l.take (b+1)):=by
      rw[du,m.out];intro d;rcases dl.1 d with d|d
      ·exact p d
      ·exact h (by simpa using d)
    have v:¬k=y:=λe=>h e.symm;go_wp2_with fail;go_roundw
    case rel=>exact⟨b+1,by omega,by go_num,trivial,f⟩
    case measure=>simp[intOf];omega
  ·obtain rfl:b=L:=by omega
   have f:Hid (l.contains y=false):=by
    have d:=p.out;rw[bA (by rw[n.out];exact am _)]at d;exact(show l.contains y=false by simpa using d)
   go_wp2_with fail
   go_ret
   exact⟨-1,rfl,rfl,by rw[f.out];simp[Hid]⟩
theorem qO.cells{v:Value}{l:List Int}(b:qO v l w):∃a c,v=ae a l.length c/\∀(i:Nat)(k:Int),l[i]?=some k->∃g o,a=some ⟨g,o,none⟩/\w.cell? ⟨g,o+i,none⟩=some (ab k):=by
 obtain⟨a,c,d,b⟩:=b;refine⟨a,c,d,λi k e=>?_⟩;rcases b with rfl|⟨g,o,d,_,b⟩
 ·simp at e
 ·exact⟨g,o,d,b i k e⟩
theorem uU(v:Value)(y:Int)(t:Bool)(w:World)(a:Hid (ak 158 #[v,ab y] w λe w'=>∃r:Int,e=.returned (ab r)/\w'=w/\Hid (decide (0<=r)=t))):ak 120 #[v,ab y] w λe w'=>e=.returned (.bool t)/\w'=w:=by
 go_enter func120,ntmps120;go_wp2_with fail;refine a.mono ?_;rintro e c ⟨r,rfl,rfl,b⟩;go_wp2_with fail
 go_ret
 exact⟨bP (by rw[<-b.out]),rfl⟩
theorem wH{v:Value}{l:List Int}(b:qO v l w)(f:l.length<=1000000)(y:Int):ak 120 #[v,ab y] w λe w'=>e=.returned (.bool (l.contains y))/\w'=w:=by
 obtain⟨a,c,e,d⟩:=b.cells;rw[e];exact uU _ y _ w (Dp a c l l.length y w f rfl d)
theorem Bb(a b:Option Addr)(c d:Nat)(len:Nat)(w:World)(x:len<=1000000)(q:Hid (∀i,i<len->∃g o h j k,(a=some ⟨g,o,none⟩/\b=some ⟨h,j,none⟩)/\w.cell? ⟨g,o+i,none⟩=some (ab k)/\w.cell? ⟨h,j+i,none⟩=some (ab k))):ak 11 #[ae a len c,ae b len d] w λe w'=>e=.returned (.bool true)/\aj w w':=by
 go_enter func11,ntmps11;go_wp2_with fail;go_loopw [13] (λi wr=>∃f:Nat,f<=len/\i=ab f/\Hid (aj w wr)) (λi _=>len-(intOf i).toNat)
 case atStart=>exact⟨0,aH _,rfl,ao _ _⟩
 case round=>
  obtain⟨f,v,rfl,HB⟩:=hrel;by_cases u:f<len
  ·obtain⟨g,o,h,j,k,⟨rfl,rfl⟩,l,m⟩:=q f u;have s:=fx w ⟨g,o+f,none⟩ l;have t:=fx w ⟨h,j+f,none⟩ m;have n:=aq HB;replace l:=(n _ _ s).trans l;replace m:=(n _ _ t).trans m;clear n;have y:(0:Int)<=(f:Int):=by omega
   have z:(f:Int)<(len:Int):=by omega
   have r:Hid (aj w wr.drew):=HB.drew;go_wp2_with fail;go_region_held3 (λp=>p.cell? ⟨g,o+f,none⟩=some (ab k)/\p.cell? ⟨h,j+f,none⟩=some (ab k)) (go_keep) (fail);go_wp2_with fail;go_roundw
   case rel=>exact⟨f+1,by omega,by go_num,r⟩
   case measure=>simp[intOf];omega
  ·obtain rfl:f=len:=by omega
   go_wp2_with fail
   go_ret
   exact⟨rfl,HB⟩
theorem uV{v u:Value}{l:List Int}(p:qO v l w)(q:qO u l w)(t:l.length<=1000000):ak 11 #[v,u] w λe w'=>e=.returned (.bool true)/\aj w w':=by
 obtain⟨h,c,k,x⟩:=p.cells;obtain⟨b,i,m,y⟩:=q.cells;rw[k,m];refine Bb h b c i l.length w t λa d=>?_;have f:l[a]?=some (l[a]'d):=aI d;obtain⟨g,o,e,r⟩:=x a _ f;obtain⟨n,z,j,s⟩:=y a _ f;exact⟨g,o,n,z,_,⟨e,j⟩,r,s⟩
theorem CX(l:List Int)(L:Nat)(bp:BL)(mo:Option Nat)(x:Int)(w:World)(R:Option Addr->Nat->Nat->World->Prop)(J:L<=99)(C:Hid (l.length=L))(D:Hid (ak 156 #[.pointer (some ⟨bp.b,bp.o,none⟩),ab x] w λe w'=>∃a c,e=.returned (ae a L c)/\Hid (R a c 0 w')))(f:Hid (∀a c j W,R a c j W->W.cell? ⟨bp.b,bp.o,none⟩=some (.map mo)/\∀(i:Nat)(k:Int),l[i]?=some k->∃g o,a=some ⟨g,o,none⟩/\W.cell? ⟨g,o+i,none⟩=some (ab k)))(HB:Hid (∀a c j W d,R a c j W->aj W d->R a c j d))(A:Hid (∀a c j k W,R a c j W->l[j]?=some k->∃d,(∀ty,(Builtin.delete_ #[70,44] ty #[.map mo,.agg #[ab (iV x k).1,ab (iV x k).2]]).run Tryz.prog W=.ok (.tuple #[]) d)/\R a c (j+1) d)):ak 119 #[.pointer (some ⟨bp.b,bp.o,none⟩),ab x] w λe w'=>∃a c,e=.returned (ae a L c)/\Hid (R a c L w'):=by
 go_enter func119,ntmps119;go_wp2_with fail;refine D.mono ?_;rintro e S ⟨a,c,rfl,z⟩;go_wp2_with fail;go_loopw [13] (λi wr=>∃j:Nat,j<=L/\i=ab j/\Hid (R a c j wr)) (λi _=>L-(intOf i).toNat)
 case atStart=>exact⟨0,aH _,rfl,z⟩
 case round=>
  obtain⟨j,K,rfl,h⟩:=hrel;by_cases F:j<L
  ·obtain⟨k,m⟩:∃k,l[j]?=some k:=⟨l[j]'(by rw[C.out];exact F),aI _⟩;obtain⟨H,y⟩:=f.out a c j wr h;obtain⟨g,o,rfl,I⟩:=y j k m;have B:=ap m;clear m y;have N:(0:Int)<=(j:Int):=by omega
   have O:(j:Int)<(L:Int):=by omega
   have s:=ap (λW=>oK x k W);have q:=ap (λW (E:R (some ⟨g,o,none⟩) c j W)=>A _ _ _ k W E B);obtain⟨⟨P,Q⟩,v⟩:∃G,G=iV x k:=⟨_,rfl⟩;rw[<-v]at s q;clear v;have p:Hid (R (some ⟨g,o,none⟩) c j wr.drew):=HB _ _ _ _ _ h (ao _ _).drew;have d0:=(f _ c j _ p).1;go_wp2_with fail
   go_region_held3 (λW=>W.cell? ⟨bp.b,bp.o,none⟩=some (.map mo)) (first|(go_keep;done)|exact(f _ _ _ _ n).1|exact(f _ _ _ _ r).1) ((first
    | (go_at_call 157;refine(s _).mono ?_;rintro e T ⟨rfl,t⟩;have n:=ap (HB _ _ _ _ _ p t);obtain⟨U,M,u⟩:=q _ n;have r:=ap u;clear t u)))
   go_wp2_with fail;go_roundw
   case rel=>exact⟨j+1,by omega,by go_num,r⟩
   case measure=>simp[intOf];omega
  ·obtain rfl:j=L:=by omega
   go_wp2_with fail
   go_ret
   exact⟨a,c,rfl,h⟩
variable {base n:Nat} {bp:BL} {mo:Option Nat} {g:Int×Int->Bool} {w:World}
theorem eP.drop(c:eP base bp mo n g w){k:Int×Int}(h:I2 k)(f:mo≠none):∃w2,(∀ty,(Builtin.delete_ #[70,44] ty #[.map mo,pk k]).run Tryz.prog w=.ok (.tuple #[]) w2)/\eP base bp mo n (iI g k false) w2/\bt (λb=>mo=some b) w w2/\w2.heap.size=w.heap.size:=by
 have i:=λmb (a:mo=some mb)=>(show eP base bp (some mb) n g w from a▸c).ne;rcases c.2.2 with⟨a,_⟩|⟨mb,rfl,l⟩
 ·exact absurd a f
 ·obtain⟨w2,j,e,d,m⟩:=l.drop h 0;refine⟨w2,λty=>j,⟨c.1,c.2.1.kept (d.block bp.b (c.lt bp.b (ah rfl)).2 (i mb rfl)),ai ⟨mb,rfl,e⟩⟩,d.mono λb _ a=>by rw[a],m⟩
theorem eP.some(c:eP base bp mo n g w){k:Int×Int}(b:g k=true):mo≠none:=by
 rcases c.2.2 with⟨_,a⟩|⟨mb,a,_⟩
 ·rw[a]at b;cases b
 ·rw[a];simp
theorem si(p:eP base bp mo n g w)(y:Aq g){x:Int}(A:dx x):ak 119 #[.pointer (some ⟨bp.b,bp.o,none⟩),ab x] w λe w'=>∃v,e=.returned v/\Hid (iG w.heap.size v (qL g x) w'/\eP base bp mo n (wo g [x]) w'/\bt (λb=>mo=some b) w w'):=by
 have G:∀b,mo=some b->b<w.heap.size:=λb e=>(p.lt b (ai e)).2;have D:∀(d:Option Addr)(c h:Nat)(k:Int)(a:World),(iG w.heap.size (.slice d (qL g x).length c) (qL g x) a/\eP base bp mo n (tF g x ((qL g x).take h)) a/\bt (λb=>mo=some b) w a)->(qL g x)[h]?=some k->∃m,(∀ty,(Builtin.delete_ #[70,44] ty #[.map mo,.agg #[ab (iV x k).1,ab (iV x k).2]]).run Tryz.prog a=.ok (.tuple #[]) m)/\(iG w.heap.size (.slice d (qL g x).length c) (qL g x) m/\eP base bp mo n (tF g x ((qL g x).take (h+1))) m/\bt (λb=>mo=some b) w m):=by
  rintro d c h k a ⟨j,f,s⟩ l;have F:=jo.1 (aJ l);have B:I2 (iV x k):=zy A (by unfold dx;omega);have E:tF g x ((qL g x).take h) (iV x k)=true:=by
   refine AQ.2 ⟨F.2,λP I e=>?_⟩;rcases MK.1 e with⟨_,e⟩|⟨t,u⟩
   ·exact ti (oV g x) l (e▸I)
   ·exact absurd (aJ l) (by rw[u];exact BD y x)
  obtain⟨K,H,i,z,O⟩:=f.drop B (f.some E);refine⟨K,H,bk j z λb i e=>?_,?_,bt.trans s z λb _ e=>e⟩
  ·have:=(j.lt b i).1;have:=G b e;omega
  ·rw[du,l];rw[show (some k).toList=[k]from rfl,Ga];exact i
 refine(CX (qL g x) (qL g x).length bp mo x w (λd c h a=>iG w.heap.size (.slice d (qL g x).length c) (qL g x) a/\eP base bp mo n (tF g x ((qL g x).take h)) a/\bt (λb=>mo=some b) w a) (vy g x) rfl ?_ ?_ ?_ D).mono ?_
 ·refine(LQ p A).mono ?_;rintro e w' ⟨v,rfl,q⟩;obtain⟨d,c,e,_⟩:=q.out.1.row;subst e;exact⟨d,c,rfl,q.1,p.later q.2,aK q.2 _⟩
 ·rintro d c h a ⟨j,f,_⟩;refine⟨f.cell.1,λJ k l=>?_⟩;obtain⟨L,M,e,C⟩:=j.row.cells;injection e with t u N;subst t;exact C J k l
 ·rintro d c h a m ⟨j,f,s⟩ i;exact⟨j.later i,f.later i,bt.trans s (aK i λ_=>False) λ_ _ p=>p.elim⟩
 ·rintro e w' ⟨d,c,rfl,r⟩;refine⟨_,rfl,r.1,?_,r.2.2⟩;have f:=r.2.1;rw[bA (am _),L7 y]at f;exact f
def fR(g:Int×Int->Bool)(x:Int)(i:Nat)(l:List Int)(j:Nat):List Int:=di g x i++zq (di g x i) (l.take j)
theorem qD{g:Int×Int->Bool}{x:Int}{i:Nat}{l:List Int}(b:l.Nodup){j:Nat}{y:Int}(a:l[j]?=some y):fR g x i l (j+1)=fR g x i l j++if (fR g x i l j).contains y then []else [y]:=by
 unfold fR;rw[du,a];rw[show (some y).toList=[y]from rfl,GR _ _ _ (ti b a),mQ]
theorem ym{g:Int×Int->Bool}{x:Int}{i:Nat}{y:Int}(a:(di g x i)[i]?=some y):fR g x i (qL (wo g (x::(di g x i).take i)) y) (qL (wo g (x::(di g x i).take i)) y).length=di g x (i+1):=by
 rw[di,a];unfold fR;rw[bA (am _)]
theorem K4{g:Int×Int->Bool}(b:Aq g){x:Int}{i:Nat}{y:Int}(c:(di g x i)[i]?=some y)(j:Nat):(fR g x i (qL (wo g (x::(di g x i).take i)) y) j).length<=99:=by
 have a:=(iZ b x (i+1)).le;rw[<-ym c]at a;refine az ?_ a;unfold fR;rw[bm,bm];refine Nat.add_le_add_left ?_ _;rw[bA (am _)];exact(List.Sublist.filter _ (List.take_sublist j _)).length_le
theorem Nb{g:Int×Int->Bool}{x:Int}{i:Nat}{y:Int}(a:(di g x i)[i]?=some y):wo (wo g (x::(di g x i).take i)) [y]=wo g (x::(di g x (i+1)).take (i+1)):=by
 rw[Po];have b:=(aS.1 a).1;rw[di,a];simp only;rw[gV (by omega),du,a];rfl
end Go.Proofs.YtmmahddlcldmiaaGreat
