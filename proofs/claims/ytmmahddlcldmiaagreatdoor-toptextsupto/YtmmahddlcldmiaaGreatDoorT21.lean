/- Proved here: plain facts and contracts. No condition but what each names. -/
import Derived.Test.YtmmahddlcldmiaaGreatDoorT20
namespace Go.Proofs.YtmmahddlcldmiaaGreatDoor
open Go.RowKit Go.Proofs.Tryz
open Go.RowKit Go.Maps
set_option maxRecDepth 100000
set_option maxHeartbeats 2000000
theorem J4{a d:Type}{l r:List a}(c:List.Sublist l r)(f:a->List d):List.Sublist (l.flatMap f) (r.flatMap f):=by
 induction c with
 | slnil=>exact List.Sublist.refl _
 | cons b _ ih=>
  simp only[bz];exact ih.trans (List.sublist_append_right _ _)
 | cons_cons b _ ih=>
  simp only[bz];exact List.Sublist.append (List.Sublist.refl _) ih
theorem Nk{b:Type}{l r:List b}(c:List.Sublist l r)(f:b->Int)(d:∀a,0<=f a):(l.map f).sum<=(r.map f).sum:=by
 induction c with
 | slnil=>exact jf _
 | cons a _ ih=>
  simp only[aM,bA];have:=d a;omega
 | cons_cons a _ ih=>
  simp only[aM,bA];omega
theorem jV.erase{N:Nat}{ws:List Wd}{nm:List ByteArray}{room:Int}{d:Wd}{vs:List Wd}{s:Tm (N+1)}{ms:List (Tm (N+1))}(l:jV (N+1) ws nm room (d::vs) (s::ms))(i:Nat):jV (N+1) ws nm room (d::vs.eraseIdx i) (s::ms.eraseIdx i):=by
 obtain⟨f,o,p,v,q,r,t,u⟩:=l;have m:vs.length=ms.length:=by simpa using f.1
 have n:List.Sublist (d::vs.eraseIdx i) (d::vs):=(List.eraseIdx_sublist vs i).cons_cons d;have j:List.Sublist (s::ms.eraseIdx i) (s::ms):=(List.eraseIdx_sublist ms i).cons_cons s;refine⟨⟨by simp[List.length_eraseIdx,m],λc g e b a=>?_⟩,(J4 n _).nodup o,λe a=>p e (j.subset a),?_,q,r,t,u⟩
 ·cases c with
  | zero=>
   simp only[cP,kN]at b a;exact f.2 0 g e (by simp[b]) (by simp[a])
  | succ c=>
   simp only[cZ,List.getElem?_eraseIdx]at b a;by_cases h:c<i
   ·rw[if_pos h]at b a;exact f.2 (c+1) g e (by simpa using b) (by simpa using a)
   ·rw[if_neg h]at b a;exact f.2 (c+2) g e (by simpa using b) (by simpa using a)
 ·have:=Nk j (sz (N+1)) λk=>(eT (N+1) k).1;omega
section
variable {base pb:Nat} {name:ByteArray} {room:Int} {N:Nat} {s:Tm (N+1)} {ms:List (Tm (N+1))} {nk:Nat} {M:Nat->Prop} {w:World} {ws:List Wd} {nm:List ByteArray} {sv:Wd} {vs:List Wd} {ma:Option Addr} {mc:Nat} {Mh:Nat->Prop}
theorem cD.dropped(a:cD base pb name room (N+1) s ms [] nk M w ws nm sv vs ma mc Mh)(i:Nat){w1:World}{g:Nat}(x:¬Mh g)(l:br (λb=>b=g) w w1)(v:jH Mh ma (vs.eraseIdx i) mc w1)(u:M g):cD base pb name room (N+1) s (ms.eraseIdx i) [] nk M (w1.setCell ⟨pb,7,none⟩ (.slice ma (vs.eraseIdx i).length mc)) ws nm sv (vs.eraseIdx i) ma mc Mh/\bV M w (w1.setCell ⟨pb,7,none⟩ (.slice ma (vs.eraseIdx i).length mc)):=by
 obtain⟨m,z⟩:=a.box0;have q:dK base (PL pb name sv (ae ma vs.length mc)) room ws nm Mh w1:=a.heap.kept (jt l) λb r _ c=>x (by rw[<-c];exact r);have k:=bm w1 pb 7 (.slice ma (vs.eraseIdx i).length mc);have j:=a.has;simp only[b8,dY]at j;refine⟨⟨q.turn k λB A mp t=>?_,?_,?_,?_,a.names,a.inM,a.mailM⟩,?_⟩
 ·unfold World.setCell;simp[bN,t]
 ·rcases v with d|⟨h,y,n,o,e,f,p⟩
  ·exact ah d
  ·exact ai ⟨h,y,n,o,e,(k.block h (aF.1 f).1 λd=>e (by rw[d];exact m)).trans f,p⟩
 ·simp only[b8,dY];exact j.erase i
 ·simp[List.length_eraseIdx,a.len]
 ·refine bV.trans ((jt l).mono λb c=>?_) k λb _ c=>?_
  ·rw[c];exact u
  ·rw[c];exact a.inM pb m
theorem cD.delete(a:cD base pb name room (N+1) s ms [] nk M w ws nm sv vs ma mc Mh)(i:Nat)(H:i<ms.length)(G:ms.length<=1000):am 98 #[ae ma vs.length mc,ab i,ab ((i:Int)+1)] w λe w'=>e=.returned (.slice ma (vs.eraseIdx i).length mc)/\Hid (br M w w'/\w'.cell? ⟨pb,7,none⟩=some (ae ma vs.length mc)/\w'.frozen? ⟨pb,7,none⟩=false/\ cD base pb name room (N+1) s (ms.eraseIdx i) [] nk M (w'.setCell ⟨pb,7,none⟩ (.slice ma (vs.eraseIdx i).length mc)) ws nm sv (vs.eraseIdx i) ma mc Mh/\bV M w (w'.setCell ⟨pb,7,none⟩ (.slice ma (vs.eraseIdx i).length mc))):=by
 have k:=a.len;obtain⟨E,m⟩:=a.box0;have f:(vs.eraseIdx i).length=vs.length-1:=by rw[List.length_eraseIdx,if_pos (by omega)]
 rcases a.mail with⟨_,e,_⟩|⟨g,n,u,rfl,d,x,y,z,A,B⟩
 ·rw[e]at k;simp at k;omega
 ·refine(zg g n mc i vs u w (by omega) x y (by omega) A B).mono ?_;rintro e w' ⟨rfl,o⟩;obtain⟨c,I,v,p,F,q⟩:=o;have j:=a.mailM _ rfl;have l:¬pb=g:=λe=>d (by rw[<-e];exact E);obtain⟨L,J,K,C,_⟩:=a.heap.box;obtain⟨_,_,_,r,t,_⟩:=PL.cells C;have D:=a.dropped i (w1:=w') (g:=g) d c (ai ⟨g,n,v,rfl,d,p,by omega,z,by omega,by rw[f];exact q⟩) j;refine⟨by rw[f],c.mono λb _ e=>by rw[e];exact j,(c.cell 7 m l).trans r,?_,D⟩;have h:=t 7;unfold World.frozen? at h ⊢;rw[c.block pb m l];exact h
end
def rN(n:Nat)(room:Int)(l:List (Bh (n+1)))(name:ByteArray)(self next:Int)(s:Tc)(ms:List Tc):Int:=
 if ki n l≠0 then ki n l else if (decide (1<=self) && decide (self<=99) && decide (1<=next) && decide (next<=92))=false then 1 else if (nA room l name self next s ms).isSome then 0 else 4
def lP(c:Nat)(sends:List (Int×Tc))(spawns:List (Int×ByteArray×Tc))(links:List Int)(sa:Option Addr)(sl sc:Nat)(pa:Option Addr)(pl pc:Nat)(ka:Option Addr)(kl kc:Nat)(P:Nat->Prop)(w:World):Prop:=
 ∃(f:Nat)(d:List (Int×Tm (f+1)))(e:List (Int×ByteArray×Tm (f+1))),(d.length=sl/\e.length=pl/\links.length=kl)/\w.ownsRow c 196 5 (ae sa sl sc) sl (d.flatMap λa=>NR a.1 a.2)/\w.ownsRow c 193 6 (ae pa pl pc) pl (e.flatMap λa=>OW a.1 a.2.1 a.2.2)/\w.ownsRow c 3 1 (ae ka kl kc) kl (links.map λg=>ab g)/\
  d.map (λa=>(a.1,cn _ a.2))=sends/\e.map (λa=>(a.1,a.2.1,cn _ a.2.2))=spawns/\(∀a∈d,bv _ a.2=0/\In w.heap.size w _ a.2/\cd (λb=>c<=b/\P b) _ a.2)/\(∀a∈e,bv _ a.2.2=0/\In w.heap.size w _ a.2.2/\cd (λb=>c<=b/\P b) _ a.2.2)/\∀b,((Value.slice sa sl sc).ownBlock=some b\/(Value.slice pa pl pc).ownBlock=some b\/(Value.slice ka kl kc).ownBlock=some b)->c<=b/\P b
theorem lP.kept{f:Nat}{sends:List (Int×Tc)}{spawns:List (Int×ByteArray×Tc)}{links:List Int}{sa:Option Addr}{sl sc:Nat}{pa:Option Addr}{pl pc:Nat}{ka:Option Addr}{kl kc:Nat}{P:Nat->Prop}{w w':World}(v:lP f sends spawns links sa sl sc pa pl pc ka kl kc P w){S:Nat->Prop}(r:br S w w')(o:∀q,f<=q->P q->q<w.heap.size->¬S q):lP f sends spawns links sa sl sc pa pl pc ka kl kc P w':=by
 obtain⟨u,H,I,x,y,z,A,B,C,g,h,i⟩:=v;have p:∀{e:Nat}{m:Tm e},In w.heap.size w e m->cd (λq=>f<=q/\P q) e m->In w'.heap.size w' e m:=λF G=>F.kee (r.mono (T:=λb=>S b/\b<w.heap.size) λb D q=>⟨q,D⟩) (G.mono λq c (a:S q/\q<w.heap.size)=>o q c.1 c.2 a.2 a.1);have l:∀{k:TypeId}{a e:Nat}{j:Value}{n:List Value},w.ownsRow f k a j e n->(∀q,j.ownBlock=some q->f<=q/\P q)->w'.ownsRow f k a j e n:=λ{k a e j n} s t=>bi s r λq c=>by
  obtain⟨J,E⟩:=ei s q c;exact o q (t q c).1 (t q c).2 (aF.1 E).1
 exact⟨u,H,I,x,l y λq c=>i q (ah c),l z λq c=>i q (ai (ah c)),l A λq c=>i q (ai (ai c)),B,C,λa d=>⟨(g a d).1,p (g a d).2.1 (g a d).2.2,(g a d).2.2⟩,λa d=>⟨(h a d).1,p (h a d).2.1 (h a d).2.2,(h a d).2.2⟩,i⟩
theorem lP.none(c:Nat)(P:Nat->Prop)(w:World):lP c [] [] [] none 0 0 none 0 0 none 0 0 P w:=
 ⟨0,[],[],⟨rfl,rfl,rfl⟩,eH _ _ _ _,eH _ _ _ _,eH _ _ _ _,rfl,rfl,λd b=>(by cases b),λd b=>(by cases b),λe a=>by
  rcases a with a|a|a<;>cases a⟩
def P5(r q:Nat)(name:ByteArray)(room:Int)(s:Tc)(ms:List Tc)(o:Nat)(M:Nat->Prop)(n:Nat)(l:List (Bh (n+1)))(self next:Int)(w:World)(e:Ending)(w':World):Prop:=
 (∃g,e=.returned (.tuple #[Nq,ab g])/\Hid (g≠0/\g=rN n room l name self next (cn 13 s) (ms.map (cn 13))/\aj w w'))\/
  ∃(a:Tc)(f:Int)(sa:Option Addr)(sl sc:Nat)(pa:Option Addr)(pl pc:Nat)(ka:Option Addr)(kl kc:Nat),e=.returned (.tuple #[Pd a.1.1 a.1.2.1 a.1.2.2 a.2.1.1 a.2.2.length a.2.1.2 f sa sl sc pa pl pc ka kl kc,ab 0])/\Hid (∃b h d,rN n room l name self next (cn 13 s) (ms.map (cn 13))=0/\nA room l name self next (cn 13 s) (ms.map (cn 13))=some b/\f=b.fate/\cn 13 a=b.message/\bv 13 a=0/\In w'.heap.size w' 13 a/\cd (λc=>w.heap.size<=c/\c<d) 13 a/\bV M w w'/\w.heap.size<d/\
   (∃i v p t u k m j,cD r q name room 13 i (ms.eraseIdx h) [] (o+402) (λc=>M c\/d<=c) w' v p t u k m j/\cn 13 i=b.state/\(ms.eraseIdx h).map (cn 13)=b.mail)/\lP (w.heap.size+1) b.sends b.spawns b.links sa sl sc pa pl pc ka kl kc (λ_=>True) w')
theorem OB{n:Nat}(room self next:Int)(s m:Tc)(ms:List Tc)(c:Cl (n+1))(b:List Tc):fm room self next s m ms c b={fm room self next s s ms c b with message:=m}:=by
 unfold fm;cases qe self c.2.2 ⟨b,next,[],[],[],false⟩with
 | none=>rfl
 | some e=>
  cases d:sO e.b self (n+1) c.1.2.2 with
  | none=>simp only[d]
  | some t=>
   simp only[d];by_cases a:(ms.map (sz 13)).sum+sz 13 t<=room
   ·simp only[if_pos a]
   ·simp only[if_neg a]
theorem GB{n:Nat}{room self next:Int}{s m:Tc}{ms:List Tc}{c:Cl (n+1)}{b:List Tc}(a:¬((fm room self next s m ms c b).fate=0\/(fm room self next s m ms c b).fate=1)):(fm room self next s m ms c b).sends=[]/\(fm room self next s m ms c b).spawns=[]/\(fm room self next s m ms c b).links=[]:=by
 unfold fm at a ⊢;cases hd:qe self c.2.2 ⟨b,next,[],[],[],false⟩with
 | none=>exact⟨rfl,rfl,rfl⟩
 | some d=>
  rw[hd]at a;cases f:sO d.b self (n+1) c.1.2.2 with
  | none=>simp[f]
  | some t=>
   simp only[f]at a ⊢;by_cases e:(ms.map (sz 13)).sum+sz 13 t<=room
   ·simp only[if_pos e]at a;cases hst:d.stops<;>simp[hst]at a
   ·simp[if_neg e]
theorem GA{n:Nat}(room self next:Int)(s m:Tc)(ms:List Tc)(c:Cl (n+1))(b:List Tc):(fm room self next s m ms c b).mail=ms:=by
 unfold fm;cases qe self c.2.2 ⟨b,next,[],[],[],false⟩with
 | none=>rfl
 | some e=>
  cases d:sO e.b self (n+1) c.1.2.2 with
  | none=>simp only[d]
  | some t=>
   simp only[d];by_cases a:(ms.map (sz 13)).sum+sz 13 t<=room
   ·simp only[if_pos a]
   ·simp only[if_neg a]
theorem qJ.keptS{D:Nat}{l:List (Tm D)}{B:List Tc}{d:Nat}{w w':World}{b h:Nat}{S:Nat->Prop}(a:qJ D l B d w b h)(c:br S w w')(g:∀q,d<=q->¬S q):qJ D l B d w' b h:=by
 obtain⟨e,f⟩:=a.new;refine⟨a.bnd,a.tells,a.cap,⟨e,aR f c.size⟩,λn t m=>?_,λo=>?_⟩
 ·obtain⟨p,r,j⟩:=a.at' n t m;exact⟨p.kee c f (g b e),r.kee c (j.mono λs k=>g s k.1),j⟩
 ·have i:=a.free o;unfold World.frozen? at i ⊢;rw[c.block b f (g b e)];exact i
theorem xp{n B:Nat}{w:World}{p:Option Addr}{l:List (Bh (n+1))}(j:fR (n+1) B w p l)(name:ByteArray):∃e d g,Mn (n+1) (f9 (n+1) name l)=ae e d g/\(gf name l).length=d/\pY B w 13 (eZ (n+1)) (gY (n+1) B w) e (gf name l)/\(gf name l=[]\/∃b∈l,gf name l=b.2.2):=by
 have k:∀(l:List (Bh (n+1))) b,f9 (n+1) name l=some b->b∈l:=by
  intro l
  induction l with
  | nil=>intro b a;cases a
  | cons q l ih=>
   intro b a;simp only[f9]at a;split at a
   ·obtain rfl:=aw a;simp
   ·exact bX _ (ih b a)
 unfold gf;cases hb:f9 (n+1) name l with
 | none=>exact⟨none,0,0,rfl,rfl,ah rfl,ah rfl⟩
 | some b=>
  have c:=k l b hb;refine⟨_,_,_,rfl,rfl,?_,ai ⟨b,c,rfl⟩⟩;rcases j with f|⟨s,o,f,r,h⟩
  ·rw[f]at c;cases c
  ·obtain⟨m,i⟩:=cM c;exact((h m b i).2).2.2
theorem cD.step{an J n:Nat}{name:ByteArray}{room:Int}{s:Tc}{ms:List Tc}{al:Nat}{M:Nat->Prop}{w:World}{ws:List Wd}{nm:List ByteArray}{bq:Wd}{vs:List Wd}{ma:Option Addr}{aE:Nat}{Mh:Nat->Prop}(S:cD an J name room 13 s ms [] al M w ws nm bq vs ma aE Mh)(l:List (Bh (n+1)))(Z:Option Addr)(L B:Nat)(a5:fR (n+1) B w Z l)(Q:B<=w.heap.size)(b6:l.length<=L)(bj:L<=maxLen)(bL:ky (n+1) l=true->(ax (n+6) (bK n l)).length<=2097152)(R:∀b,M b->b<w.heap.size)(bM:∀W,br M w W->fR (n+1) B W Z l)(cz:al<=47000)(cu:ms.length<=999)(cv:an<=w.heap.size)(self next:Int):am 67 #[aB J,ae Z l.length L,ab self,ab next] w (P5 an J name room s ms al M n l self next w):=by
 obtain⟨ca,cb⟩:=S.box0 (N:=12);obtain⟨cK,cC,cG,bN,_⟩:=S.heap.box;obtain⟨bA,_,_,cs,ct,_⟩:=PL.cells bN;obtain⟨aW,bC,bd,bX,bU,bY,bW⟩:=xp a5 name;have cy:L<=9223372036854775807:=by unfold maxLen at bj;omega
 have bh:ki n l=0->(∀c∈gf name l,pW c)/\(gf name l).length<=6:=λq=>by
  obtain⟨_,bk⟩:=FA q;rcases bW with d|⟨b,r,d⟩
  ·rw[d];exact⟨λc bQ=>(by cases bQ),aI _⟩
  ·rw[d];exact⟨(bk b r).2,(bk b r).1⟩
 have a3:∀(g:Nat)(t:Tc),(ms.map (cn 13))[g]?=some t->g<ms.length:=λg t ar=>by
  have:=(aO.1 ar).1;simpa using this
 refine(Ii J name Z l.length L self next (ki n l) aW bC bd w (sh (gf name l) (cn 13 s) (ms.map (cn 13)) 0=none)
  (λg i c v F u=>∃j A E,aj w u/\(1<=self/\self<=99/\1<=next/\next<=92)/\ki n l=0/\sh (gf name l) (cn 13 s) (ms.map (cn 13)) 0=some (g,c,j)/\c∈gf name l/\(ms.map (cn 13))[g]?=some (cn 13 i)/\bv 13 i=0/\In u.heap.size u 13 i/\cd (λa=>w.heap.size<a/\a≠v) 13 i/\qJ (A+1) E j (w.heap.size+1) u v F)
  (λg i c v F u=>∃j A E aR aK aM aP aC aG ap,cD an J name room 13 s (ms.eraseIdx g) [] al M u aR aK aM aP aC aG ap/\bV M w u/\(1<=self/\self<=99/\1<=next/\next<=92)/\ki n l=0/\sh (gf name l) (cn 13 s) (ms.map (cn 13)) 0=some (g,c,j)/\c∈gf name l/\(ms.map (cn 13))[g]?=some (cn 13 i)/\bv 13 i=0/\In u.heap.size u 13 i/\cd (λa=>w.heap.size<a/\a≠v) 13 i/\qJ (A+1) E j (w.heap.size+1) u v F)
  (λg i c f sa sl sc pa pl pc ka kl kc P=>∃j aa,sh (gf name l) (cn 13 s) (ms.map (cn 13)) 0=some (g,c,j)/\(ms.map (cn 13))[g]?=some (cn 13 i)/\bv 13 i=0/\In P.heap.size P 13 i/\cd (λa=>w.heap.size<a/\a<aa) 13 i/\w.heap.size<aa/\bV M w P/\f=(fm room self next (cn 13 s) (cn 13 s) ((ms.eraseIdx g).map (cn 13)) c j).fate/\
   (∃O aR aK aM aP aC aG ap,cD an J name room 13 O (ms.eraseIdx g) [] (al+402) (λa=>M a\/aa<=a) P aR aK aM aP aC aG ap/\cn 13 O=(fm room self next (cn 13 s) (cn 13 s) ((ms.eraseIdx g).map (cn 13)) c j).state)/\
   lP (w.heap.size+1) (fm room self next (cn 13 s) (cn 13 s) ((ms.eraseIdx g).map (cn 13)) c j).sends (fm room self next (cn 13 s) (cn 13 s) ((ms.eraseIdx g).map (cn 13)) c j).spawns (fm room self next (cn 13 s) (cn 13 s) ((ms.eraseIdx g).map (cn 13)) c j).links sa sl sc pa pl pc ka kl kc (λ_=>True) P)
  _ M cb R (S.inM J ca) rfl ?_ bA ?_ ?_ ?_ ?_).mono ?_
 ·intro W k;refine(Ev n l Z L b6 bj B W (a5.below (k.mono Q)) (az Q k.size) bL).mono ?_;rintro d K ⟨i,rfl,x⟩;exact⟨_,_,_,_,_,_,rfl,x.1⟩
 ·intro W _ k;refine(uK (n+1) name l Z L l.length B W rfl (by omega) (az Q k.size) (a5.below (k.mono Q))).mono ?_;rintro d K ⟨rfl,r⟩;exact⟨by rw[bX],r⟩
 ·intro W q y k;simp only[aA,bO]at y;obtain⟨a6,b7⟩:=bh q;have bg:=C7 (S.later (N:=12) k) (gf name l) aW bd B ((cq (en (n+1)) 13 (eZ (n+1)) aW).below (k.mono Q) bY) (az Q k.size) a6 (by omega) (by omega) (by omega);rw[bU]at bg;refine bg.mono ?_;rintro d K (⟨bI,rfl,x⟩|⟨g,i,c,v,F,rfl,x⟩)
  ·exact ah ⟨rfl,x,bI⟩
  ·obtain⟨j,A,E,G,H,z,I,bn,V,X,D⟩:=x.out;have ch:=k.size;have ak:=D.new;have a2:=a3 g _ z;exact ai ⟨g,i,c,v,F,rfl,bn,by omega,ak.2,by omega,j,A,E,k.trans (bn.mono ch),⟨y.1.1.1,y.1.1.2,y.1.2,y.2⟩,q,G,H,z,I,V,X.mono λa h=>⟨by omega,h.2⟩,D.mono (by omega)⟩
 ·rintro g i c v F u W ⟨j,A,E,aX,T,q,G,H,z,I,V,X,D⟩ k;have aZ:=aX.trans (k.mono aX.size);have a2:=a3 g _ z;obtain⟨cL,cE,cH,bP,_⟩:=(S.later (N:=12) aZ).heap.box;obtain⟨_,_,_,bB,bD,_⟩:=PL.cells bP;refine⟨ma,vs.length,aE,⟨bB,bD 7⟩,λbz av=>?_⟩;have be:=aZ.trans (av.mono aZ.size);refine((S.later (N:=12) be).delete (N:=12) g a2 (by omega)).mono ?_;rintro d K ⟨rfl,x⟩;obtain⟨cj,ck,cl,cm,a9⟩:=x.out;have ce:=aX.size;refine⟨ma,_,aE,rfl,cj,ck,cl,j,A,E,ws,nm,bq,_,ma,aE,Mh,cm,(aY be M).trans a9 λ_ _ d=>d,T,q,G,H,z,I,?_,X,?_⟩
  ·exact(((V.below k).mono k.size |>.below av).mono av.size).kee (ig a9) (X.mono λa h e=>by have:=R a e;omega)
  ·exact((D.keptS (aJ k (λ_=>False)) (λ_ _ d=>d)).keptS (aJ av (λ_=>False)) (λ_ _ d=>d)).keptS (ig a9) λa h e=>by have:=R a e;omega
 ·rintro g i c v F u W ad ⟨j,A,E,aR,aK,aM,aP,aC,aG,ap,b9,a4,T,q,G,H,z,I,V,X,D⟩ k cw bf;obtain⟨a6,b7⟩:=bh q;have Y:=D.keptS (aJ k (λ_=>False)) (λ_ _ d=>d);have ak:=D.new;have ce:=a4.size;have cg:=k.size;have a2:=a3 g _ z;have cx:ad<W.heap.size:=(aF.1 bf).1;have b0:ek (w.heap.size+1) ad self n A 0 next ⟨j,next,[],[],[],false⟩ W E v F [] [] (ae none 0 0) (ae none 0 0) (ae none 0 0):=by
   refine⟨bf,⟨by omega,by omega,ak.1,Y.new.2,by omega⟩,Y.bnd,Y.tells,λU e p=>⟨(Y.at' U e p).1,(Y.at' U e p).2.1,(In.offB (D.at' U e p).2.2 (D.at' U e p).2.1).mono λa h=>⟨h.1.1,λm=>?_⟩⟩,Y.free,eH _ _ _ _,eH _ _ _ _,eH _ _ _ _,rfl,rfl,λe p=>(by cases p),λe p=>(by cases p),⟨⟨λd=>(by cases d),λd=>(by cases d),λd=>(by cases d)⟩,⟨λd=>(by cases d),λd=>(by cases d),λd=>(by cases d)⟩,λa=>⟨λd=>(by cases d),λd=>(by cases d)⟩⟩,⟨aI _,aI _,aI _,by simp,T.2.2.1,T.2.2.2⟩⟩;rcases m with m|m|m|m|m
   ·have:=h.2;omega
   ·exact h.1.2 m
   ·cases m
   ·cases m
   ·cases m
  have b5:br M w W:=(ig a4).trans (aJ k (λ_=>False)) λ_ _ d=>d.elim;have bT:gY (n+1) B W c:=by
   obtain⟨_,_,_,_,_,bZ,_⟩:=xp (bM W b5) name;rcases bZ with d|⟨a,o,d,h,bS⟩
   ·rw[d]at H;cases H
   ·obtain⟨U,b4⟩:=cM H;exact(bS U c b4).2
  have bR:gY (n+1) (w.heap.size+1) W c:=(en (n+1)).mono (by omega) bT;have b1:(ms.eraseIdx g).length<=999:=by
   have:=List.length_eraseIdx_le ms g;omega
  have a1:=Di (b:=j) (b9.later (N:=12) k) b0 rfl c bR (a6 c H) ⟨T.1,T.2.1⟩ (λa e=>by have:=R a e;omega) (by omega) (by omega) b1;have b2:am 99 #[aB J,Qa c,aB ad] W _:=a1;refine b2.mono ?_;rintro d K ⟨f,rfl,aU,aV,⟨O,aS,aL,aN,aQ,aD,aH,aq,bb,bc⟩,bx⟩;have a0:∀a,lu ad v (ae none 0 0) (ae none 0 0) (ae none 0 0) a->a=ad\/a=v:=λa m=>by
   rcases m with m|m|m|m|m
   ·exact ah m
   ·exact ai m
   ·cases m
   ·cases m
   ·cases m
  have af:bV M w K:=(a4.trans (aY k M) λ_ _ d=>d).trans (jt aV) λa h e=>by
   rcases e with e|e
   ·exact e
   ·rcases a0 a e with e|e<;>omega
  have ao:=In.offB X V
  have aT:In K.heap.size K 13 i:=((V.below k).mono cg).kee aV (ao.mono λa h e=>by
   rcases e with e|e
   ·have:=R a e;omega
   ·rcases a0 a e with e|e
    ·have:=h.2;omega
    ·exact h.1.2 e)
  have bs:cd (λa=>w.heap.size<a/\a<W.heap.size) 13 i:=ao.mono λa h=>⟨h.1.1,by have:=h.2;omega⟩;refine⟨f,rfl,aV.mono λa _ e=>?_,λau=>?_,λau=>?_⟩
  ·rcases e with e|e
   ·exact ah e
   ·exact ai (a0 a e)
  ·obtain⟨bE,cB,cr,cp,bo,bp,cJ,cI,cF,C,bt,bu,ba,_⟩:=bx au;have bm:=C.sRow;have bl:=C.pRow;have bi:=C.lRow;have b3:=C.high;have a8:=C.sIn;have a7:=C.pIn;obtain⟨sa,sc,rfl⟩:=mF bm;obtain⟨pa,pc,rfl⟩:=mF bl;obtain⟨ka,kc,rfl⟩:=mF bi;refine⟨_,_,_,_,sa,bo.length,sc,pa,bp.length,pc,ka,bE.links.length,kc,C.box,j,W.heap.size,G,z,I,aT,bs,by omega,af,aU,⟨O,aS,aL,aN,aQ,aD,aH,aq,bb,bc⟩,?_⟩;refine⟨A+1+n,bo,bp,⟨rfl,rfl,by rw[<-ba]⟩,bm,bl,by rw[<-ba];exact bi,C.sIs.trans bt,C.pIs.trans bu,λe p=>⟨(a8 e p).1,(a8 e p).2.1,(a8 e p).2.2.mono λa h=>⟨h.1,trivial⟩⟩,λe p=>⟨(a7 e p).1,(a7 e p).2.1,(a7 e p).2.2.mono λa h=>⟨h.1,trivial⟩⟩,λa h=>⟨b3 a (ai (ai h)),trivial⟩⟩
  ·rw[aU]at au;obtain⟨bF,bG,bH⟩:=GB au;refine⟨j,W.heap.size,G,z,I,aT,bs,by omega,af,aU,⟨O,aS,aL,aN,aQ,aD,aH,aq,bb,bc⟩,?_⟩;rw[bF,bG,bH];exact lP.none _ _ _
 ·rintro d K (⟨co,rfl,x⟩|⟨g,i,c,f,sa,sl,sc,pa,pl,pc,ka,kl,kc,rfl,x⟩)
  ·obtain⟨r,ci⟩:=x.out;refine ah ⟨co,rfl,?_⟩;rcases ci with⟨rfl,ar⟩|⟨rfl,q,y⟩|⟨rfl,q,y,ak⟩
   ·exact⟨ar,by unfold rN;rw[if_pos ar],r⟩
   ·exact⟨by decide,by unfold rN;rw[if_neg (λa=>a q),if_pos y],r⟩
   ·refine⟨by decide,?_,r⟩;have ay:nA room l name self next (cn 13 s) (ms.map (cn 13))=none:=by
     unfold nA;rw[ak];rfl
    unfold rN;rw[if_neg (λa=>a q),if_neg (by rw[y];decide),ay];rfl
  ·obtain⟨q,y,P,bz,⟨j,aa,G,z,I,aT,ao,bJ,af,a1,⟨O,aS,aL,aN,aQ,aD,aH,aq,P1,bw⟩,cc⟩,ag,aw⟩:=x;have cA:=af.size;have cf:=ag.size;have b8:(ms.map (cn 13)).eraseIdx g=(ms.eraseIdx g).map (cn 13):=by simp[sR,List.map_take,List.map_drop]
   have ay:nA room l name self next (cn 13 s) (ms.map (cn 13))=some {fm room self next (cn 13 s) (cn 13 s) ((ms.eraseIdx g).map (cn 13)) c j with message:=cn 13 i}:=by
    unfold nA;rw[G];simp only[dA];rw[z,b8,mX,OB]
   refine ai ⟨i,f,sa,sl,sc,pa,pl,pc,ka,kl,kc,rfl,_,g,aa,?_,ay,a1,rfl,I,((aT.below ag).mono cf).kee aw (ao.mono λa h d=>by omega),ao.mono λa h=>⟨by omega,h.2⟩,(af.trans (aY ag M) λ_ _ d=>d).trans (jt aw) λb r d=>by omega,bJ,⟨O,aS,aL,aN,aQ,aD,aH,aq,(P1.later (N:=12) ag).kept (N:=12) (jt aw) λb r _ d=>?_,bw,(GA ..).symm⟩,(cc.kept (aJ ag (λ_=>False)) λ_ _ _ _ d=>d).kept aw λa h _ _ d=>by omega⟩
   ·unfold rN;rw[if_neg (λa=>a q),if_neg (by rw[y];decide),ay];rfl
   ·rcases r with r|r
    ·have:=R b r;omega
    ·omega
theorem Gf(n:Nat)(x:Tm n):bv n x=0\/bv n x=2\/bv n x=5:=by
 rw[<-gj];unfold wV;split
 ·split
  ·exact ai (ah rfl)
  ·exact ah rfl
 ·exact ai (ai rfl)
section
variable {base pb:Nat} {name:ByteArray} {room:Int} {N n:Nat} {s:Tm (N+1)} {ms:List (Tm (N+1))} {nk:Nat} {M:Nat->Prop} {w:World} {ws:List Wd} {nm:List ByteArray} {sv:Wd} {vs:List Wd} {ma:Option Addr} {mc:Nat} {Mh:Nat->Prop}
theorem cD.putBad(k:cD base pb name room (N+1) s ms [] nk M w ws nm sv vs ma mc Mh)(x:Tm (n+1))(B:In w.heap.size w (n+1) x)(z:cd (λb=>¬M b) (n+1) x)(u:(ax (n+1) x).length<=2097152)(G:nk<=49000)(F:base<=w.heap.size)(o:bv (n+1) x≠0):am 127 #[aB pb,df (n+1) x] w λe w'=>e=.returned (.tuple #[.agg #[ab 0,ab 0],ab (bv (n+1) x)])/\aj w w':=by
 obtain⟨_,_,_,I,J,C,D,_⟩:=k.front;have H:=k.names;have l:jL (n+1) x room ws=bv (n+1) x:=by
  unfold jL;rw[if_pos o]
 have t:jL (n+1) x room ws≠6:=by
  rw[l];rcases Gf (n+1) x with e|e|e<;>rw[e]<;>decide
 have p:∀{h:Wd}{c:Int}{f i:World},yJ (n+1) x base (PL pb name sv (ae ma vs.length mc)) room ws nm Mh h c f i->c≠0:=λg=>by
  rw[g.1,l];exact o
 refine(BZ pb x.1.1 x.1.2.1 x.1.2.2 x.2.1.1 x.2.2.length x.2.1.2 w (λh c f i=>yJ (n+1) x base (PL pb name sv (ae ma vs.length mc)) room ws nm Mh h c f i) (λ_ _=>False) (λ_ _ _ _=>False) ?_ ?_ ?_).mono ?_
 ·intro f d;have m:=d.size;have q:=k.later d;refine(ve (n+1) x base (PL pb name sv (ae ma vs.length mc)) room ws nm Mh f q.heap ((B.below d).mono m) (z.mono λb d g=>d (k.inM b g)) u (by omega) C D (by omega) (by omega)).mono ?_;intro e i g;obtain⟨h,c,rfl,a⟩:=zK g;refine⟨h,c,rfl,?_,a⟩;have j:=(a.2.1 (p a)).2;exact⟨j.size,λb _ _ r=>j.block b r⟩
 ·intro K f i L _ a _ _;exact absurd a.1.symm t
 ·intro _ _ _ a;exact a.elim
 ·rintro e w' ⟨h,c,rfl,⟨_,f,i,d,a,y⟩|⟨_,_,_,_,_,_,_,_,_,_,_,a,_⟩⟩
  ·obtain⟨A,j⟩:=a.2.1 (p a);have m:=d.size;have v:c=bv (n+1) x:=a.1.trans l;refine⟨by rw[v,A],(d.trans (j.mono m)).trans ((ig y).below (by have:=j.size;omega) λb E g=>by omega)⟩
  ·exact a.elim
theorem cD.deliverBad(f:cD base pb name room (N+1) s ms [] nk M w ws nm sv vs ma mc Mh)(x:Tm (n+1))(v:In w.heap.size w (n+1) x)(t:cd (λb=>¬M b) (n+1) x)(p:(ax (n+1) x).length<=2097152)(r:nk<=49000)(q:base<=w.heap.size)(k:bv (n+1) x≠0):am 105 #[aB pb,df (n+1) x] w λe w'=>e=.returned (ab (if 20<=ms.length then 2 else bv (n+1) x))/\aj w w':=by
 have z:=f.len;obtain⟨A,u⟩:=f.box0;refine(qZ pb x.1.1 x.1.2.1 x.1.2.2 x.2.1.1 x.2.2.length x.2.1.2 vs.length mc ma w (λ_ l h d=>l=bv (n+1) x/\aj h d) (λ_ _ _ _ _ _=>False) u ?_ ?_ ?_).mono ?_
 ·intro d a;obtain⟨D,B,C,i,_⟩:=(f.later a).heap.box;exact(PL.cells i).2.2.2.1
 ·intro h a;have g:=a.size;refine((f.later a).putBad x ((v.below a).mono g) t p r (az q g) k).mono ?_;rintro e d ⟨rfl,c⟩;exact⟨(0,0),_,rfl,⟨c.size,λb _ _ j=>c.block b j⟩,rfl,c⟩
 ·rintro y h d ⟨e,_⟩;exact absurd e.symm k
 ·rintro e w' ⟨i,m⟩;by_cases o:20<=vs.length
  ·obtain⟨rfl,a⟩:=i o;exact⟨by rw[if_pos (by omega)],a⟩
  ·obtain⟨y,l,h,d,rfl,a,⟨rfl,c⟩,j,_⟩:=m (by omega);have g:=a.size;exact⟨by rw[if_neg (by omega)],(a.trans (c.mono g)).trans ((j k).mono (by have:=c.size;omega))⟩
end
def nn(n:Nat)(x:Tm n)(room:Int)(s:Tc)(ms:List Tc):Int:=if 20<=ms.length then 2 else if bv n x≠0 then bv n x else if aK n x=false then 5 else if ((s::ms).map (sz 13)).sum+sz n x<=room then 0 else 6
theorem EX{l:List Tc}(a:∀y∈l,bv 13 y=0):((l.map (cn 13)).map (sz 13)).sum=(l.map (sz 13)).sum:=by
 rw[gu];congr 1;exact ji λy b=>EY (a y b)
section
variable {base pb:Nat} {name:ByteArray} {room:Int} {n:Nat} {s:Tc} {ms:List Tc} {nk:Nat} {M:Nat->Prop} {w:World} {ws:List Wd} {nm:List ByteArray} {sv:Wd} {vs:List Wd} {ma:Option Addr} {mc:Nat} {Mh:Nat->Prop}
theorem cD.deliverC(f:cD base pb name room 13 s ms [] nk M w ws nm sv vs ma mc Mh)(x:Tm (n+1))(C:In w.heap.size w (n+1) x)(B:cd (λb=>¬M b) (n+1) x)(J:(ax (n+1) x).length<=2097152)(I:∀b,M b->b<w.heap.size)(A:nk<=49000)(G:ms.length<=999)(v:base<=w.heap.size):am 105 #[aB pb,df (n+1) x] w λe w'=>e=.returned (ab (nn (n+1) x room (cn 13 s) (ms.map (cn 13))))/\Hid (∃D q m o p k l h,cD base pb name room 13 s D [] (nk+201) (λb=>M b\/w.heap.size<=b) w' q m o p k l h/\bV M w w'/\D.map (cn 13)=if nn (n+1) x room (cn 13 s) (ms.map (cn 13))=0 then ms.map (cn 13)++ [cn (n+1) x]else ms.map (cn 13)):=by
 have L:∀r∈s::ms,bv 13 r=0:=λr Q=>((f.front (N:=12)).2.2.1 r Q).1;have O:((cn 13 s::ms.map (cn 13)).map (sz 13)).sum=((s::ms).map (sz 13)).sum:=EX L;by_cases a:bv (n+1) x=0
 ·have j:aD ⟨n+1,x⟩:=aL.2 (bC.1 a).1;have i:fA (n+1) x<13:=by have:=(bC.1 a).2.1;omega
  have g:=ju 13 (n+1) x j i;have y:bv 13 (aS 13 (n+1) x)=0:=(bJ g).trans a;have z:=f.deliver (N:=12) (aS 13 (n+1) x) (sD 13 (n+1) x _ _ j i C) (uc 13 (n+1) x _ j i B) (eg y) I A G v;have d:zi 13 (aS 13 (n+1) x) room s ms=nn (n+1) x room (cn 13 s) (ms.map (cn 13)):=by
   unfold zi nn sF;rw[O,eE,y,a,cB _ _ _ _ g,lI _ _ _ _ g]
  have P:df (12+1) (aS (12+1) (n+1) x)=df (n+1) x:=zx 12 n x;rw[P]at z;refine z.mono ?_;rintro e w' ⟨rfl,E⟩;obtain⟨q,m,o,p,k,l,h,F,K⟩:=E;refine⟨congrArg (λS=>Ending.returned (ab S)) d,_,q,m,o,p,k,l,h,F,K,?_⟩;have H:zi (12+1) (aS (12+1) (n+1) x) room s ms=nn (n+1) x room (cn 13 s) (ms.map (cn 13)):=d;rw[H];by_cases c:nn (n+1) x room (cn 13 s) (ms.map (cn 13))=0
  ·rw[if_pos c,if_pos c,fP];congr 1;exact congrArg (λt=> [t]) (ic g)
  ·rw[if_neg c,if_neg c]
 ·have d:nn (n+1) x room (cn 13 s) (ms.map (cn 13))=if 20<=ms.length then 2 else bv (n+1) x:=by
    unfold nn;rw[eE,if_pos a]
  have c:nn (n+1) x room (cn 13 s) (ms.map (cn 13))≠0:=by
   rw[d];split
   ·decide
   ·exact a
  refine(f.deliverBad (N:=12) x C B J A v a).mono ?_;rintro e w' ⟨rfl,u⟩;refine⟨by rw[d],ms,ws,nm,sv,vs,ma,mc,Mh,(f.later (N:=12) u).mono (N:=12) (λb R=>ah R) (by omega),aY u M,?_⟩;rw[if_neg c]
end
theorem KA{n:Nat}{x:Tm (n+1)}(room:Int)(name:ByteArray)(b:bv (n+1) x=0):fX 13 (aS 13 (n+1) x) room name=fX (n+1) x room name:=by
 have d:aD ⟨n+1,x⟩:=aL.2 (bC.1 b).1;have c:fA (n+1) x<13:=by have:=(bC.1 b).2.1;omega
 have a:=ju 13 (n+1) x d c;unfold fX jL;rw[bJ a,cB _ _ _ _ a,lI _ _ _ _ a]
theorem PA(n:Nat)(x:Tm (n+1))(room:Int)(name:ByteArray)(w:World)(m:name.size<=9223372036854775807)(o:In w.heap.size w (n+1) x)(q:(ax (n+1) x).length<=2097152):am 40 #[af name,df (n+1) x,ab room] w λe w'=>(fX (n+1) x room name≠0->e=.returned (.tuple #[.pointer none,ab (fX (n+1) x room name)])/\aj w w')/\ (fX (n+1) x room name=0->∃d,e=.returned (.tuple #[aB d,ab 0])/\Hid (w.heap.size<=d/\aj w w'/\bv (n+1) x=0/\∃s ws nm h Mh,cn 13 s=cn (n+1) x/\cD w.heap.size d name room 13 s [] [] 201 (λb=>w.heap.size<=b/\b<w'.heap.size) w' ws nm h [] none 0 Mh)):=by
 by_cases c:bv (n+1) x=0
 ·have k:aD ⟨n+1,x⟩:=aL.2 (bC.1 c).1;have j:fA (n+1) x<13:=by have:=(bC.1 c).2.1;omega
  have l:=ju 13 (n+1) x k j;have r:bv 13 (aS 13 (n+1) x)=0:=(bJ l).trans c;have i:=BW 12 (aS 13 (n+1) x) room name w m (sD 13 (n+1) x _ _ k j o) (eg r);have u:df (12+1) (aS (12+1) (n+1) x)=df (n+1) x:=zx 12 n x;rw[u]at i;refine i.mono ?_;rintro e w' ⟨f,g⟩;have t:fX (12+1) (aS (12+1) (n+1) x) room name=fX (n+1) x room name:=KA room name c;rw[t]at f g;refine⟨f,λa=>?_⟩;obtain⟨d,rfl,p⟩:=g a;obtain⟨v,y,ws,nm,h,Mh,z⟩:=p;exact⟨d,rfl,v,y,c,_,ws,nm,h,Mh,ic l,z⟩
 ·refine(BW n x room name w m o q).mono ?_;rintro e w' ⟨f,g⟩;refine⟨f,λa=>?_⟩;unfold fX at a;split at a
  ·cases a
  ·split at a
   ·cases a
   ·unfold jL at a;rw[if_pos c]at a;exact absurd a c
def P1(e l:Nat)(name:ByteArray)(room:Int)(cs:Tc)(g:List Tc)(k:Nat)(M:Nat->Prop)(w:World):Prop:=
 ∃a d c o j m n h i f,cD a l name room 13 d c [] k M w o j m n h i f/\(cn 13 d=cs/\c.map (cn 13)=g)/\a<=w.heap.size/\∀b,M b->e<=b/\b<w.heap.size
section
variable {B0 pb:Nat} {name:ByteArray} {room:Int} {cs:Tc} {cms:List Tc} {k:Nat} {M:Nat->Prop} {w:World}
theorem P1.later(g:P1 B0 pb name room cs cms k M w){w1:World}(c:aj w w1):P1 B0 pb name room cs cms k M w1:=by
 obtain⟨f,o,m,r,n,p,q,j,l,e,h,i,s,a⟩:=g;have t:=c.size;exact⟨f,o,m,r,n,p,q,j,l,e,h.later (N:=12) c,i,by omega,λb d=>⟨(a b d).1,by have:=(a b d).2;omega⟩⟩
theorem P1.kept(g:P1 B0 pb name room cs cms k M w){S:Nat->Prop}{w1:World}(d:bV S w w1)(j:∀b,M b->¬S b):P1 B0 pb name room cs cms k M w1:=by
 obtain⟨f,p,n,s,o,q,r,l,m,e,h,i,t,c⟩:=g;have u:=d.size;exact⟨f,p,n,s,o,q,r,l,m,e,h.kept (N:=12) d λb a _=>j b a,i,by omega,λb a=>⟨(c b a).1,by have:=(c b a).2;omega⟩⟩
def mM(M:Nat->Prop)(w w':World)(b:Nat):Prop:=(M b\/w.heap.size<=b)/\b<w'.heap.size
theorem P1.ok(h:P1 B0 pb name room cs cms k M w):bv 13 cs=0/\aK 13 cs=true/\(∀m∈cms,bv 13 m=0/\aK 13 m=true)/\((cs::cms).map (sz 13)).sum<=room:=by
 obtain⟨q,b,f,z,v,x,y,t,u,p,i,⟨rfl,rfl⟩,r,s⟩:=h;obtain⟨_,_,e,n,o,_⟩:=i.front (N:=12);have j:∀a∈b::f,bv 13 a=0:=λa d=>(e a d).1;have c:=e b (by simp);refine⟨nV c.1,(mf c.1).trans c.2,λm l=>?_,?_⟩
 ·obtain⟨a,d,rfl⟩:=cC.1 l;have:=e a (bX _ d);exact⟨nV this.1,(mf this.1).trans this.2⟩
 ·have g:((cn 13 b::f.map (cn 13)).map (sz 13)).sum=((b::f).map (sz 13)).sum:=EX j;rw[g];exact Int.le_trans n o
theorem P1.deliver(j:P1 B0 pb name room cs cms k M w){n:Nat}(x:Tm (n+1))(t:In w.heap.size w (n+1) x)(s:cd (λb=>¬M b) (n+1) x)(q:(ax (n+1) x).length<=2097152)(r:k<=49000)(m:cms.length<=999)(G:B0<=w.heap.size):am 105 #[aB pb,df (n+1) x] w λe w'=>e=.returned (ab (nn (n+1) x room cs cms))/\Hid (bV M w w'/\P1 B0 pb name room cs (if nn (n+1) x room cs cms=0 then cms++ [cn (n+1) x]else cms) (k+201) (mM M w w') w'):=by
 obtain⟨i,A,J,P,K,L,O,H,I,E,l,⟨rfl,rfl⟩,c,d⟩:=j;refine(l.deliverC x t s q (λb a=>(d b a).2) r (by simpa using m) c).mono ?_;rintro e w' ⟨rfl,h⟩;obtain⟨y,D,z,B,C,u,v,F,o,f,p⟩:=h;refine⟨rfl,f,i,A,y,D,z,B,C,u,v,_,o.inside (N:=12),⟨rfl,p⟩,az c f.size,λb a=>⟨?_,a.2⟩⟩;rcases a.1 with g|g
 ·exact(d b g).1
 ·omega
theorem P1.state(d:P1 B0 pb name room cs cms k M w)(g:k<=50000):am 43 #[aB pb] w λe w'=>∃y:Tc,e=.returned (df 13 y)/\Hid (aj w w'/\In w'.heap.size w' 13 y/\cd (λq=>w.heap.size<=q) 13 y/\bv 13 y=0/\cn 13 y=cs):=by
 obtain⟨l,h,r,v,s,t,u,o,p,j,a,⟨rfl,rfl⟩,m,n⟩:=d;have f:=(a.front (N:=12)).2.2.1 h (by simp);refine(a.state (N:=12) g).mono ?_;rintro e w' ⟨y,rfl,c⟩;obtain⟨y1,y2,i,b⟩:=c;exact⟨y,rfl,y1,y2,i,(bJ b).trans f.1,ic b⟩
end
section
variable {B0 pb:Nat} {name:ByteArray} {room:Int} {cs:Tc} {cms:List Tc} {k:Nat} {M:Nat->Prop} {w:World}
theorem P1.mono(f:P1 B0 pb name room cs cms k M w){M':Nat->Prop}{c a:Nat}(j:∀b,M b->M' b)(m:k<=c)(l:∀b,M' b->a<=b/\b<w.heap.size):P1 a pb name room cs cms c M' w:=by
 obtain⟨e,r,p,u,q,s,t,n,o,d,g,h,i,_⟩:=f;exact⟨e,r,p,u,q,s,t,n,o,d,g.mono (N:=12) j m,h,i,l⟩
def P6(B0 pb:Nat)(name:ByteArray)(room:Int)(cs:Tc)(cms:List Tc)(k:Nat)(M:Nat->Prop)(n:Nat)(l:List (Bh (n+1)))(self next:Int)(w:World)(e:Ending)(w':World):Prop:=
 (∃g,e=.returned (.tuple #[Nq,ab g])/\Hid (g≠0/\g=rN n room l name self next cs cms/\aj w w'))\/
  ∃(a:Tc)(f:Int)(sa:Option Addr)(sl sc:Nat)(pa:Option Addr)(pl pc:Nat)(ka:Option Addr)(kl kc:Nat),e=.returned (.tuple #[Pd a.1.1 a.1.2.1 a.1.2.2 a.2.1.1 a.2.2.length a.2.1.2 f sa sl sc pa pl pc ka kl kc,ab 0])/\Hid (∃c d,rN n room l name self next cs cms=0/\nA room l name self next cs cms=some c/\f=c.fate/\cn 13 a=c.message/\bv 13 a=0/\In w'.heap.size w' 13 a/\cd (λh=>w.heap.size<=h/\h<d) 13 a/\bV M w w'/\w.heap.size<d/\
   P1 B0 pb name room c.state c.mail (k+402) (λb=>(M b\/d<=b)/\b<w'.heap.size) w'/\c.mail.length<=cms.length/\lP (w.heap.size+1) c.sends c.spawns c.links sa sl sc pa pl pc ka kl kc (λ_=>True) w')
theorem P1.step(D:P1 B0 pb name room cs cms k M w){n:Nat}(l:List (Bh (n+1)))(a:Option Addr)(c B:Nat)(K:fR (n+1) B w a l)(G:B<=w.heap.size)(L:l.length<=c)(O:c<=maxLen)(H:ky (n+1) l=true->(ax (n+6) (bK n l)).length<=2097152)(I:∀W,br M w W->fR (n+1) B W a l)(ak:B0<=w.heap.size)(J:k<=47000)(F:cms.length<=999)(self next:Int):am 67 #[aB pb,ae a l.length c,ab self,ab next] w (P6 B0 pb name room cs cms k M n l self next w):=by
 obtain⟨C,ap,S,av,ao,aq,ar,al,an,af,E,⟨rfl,rfl⟩,i,j⟩:=D;refine(E.step l a c B K G L O H (λb d=>(j b d).2) I J (by simpa using F) i self next).mono ?_;rintro aj au (⟨Y,rfl,e⟩|⟨ad,f,sa,sl,sc,pa,pl,pc,ka,kl,kc,rfl,e⟩)
 ·exact ah ⟨Y,rfl,e⟩
 ·obtain⟨X,P,o,p,r,s,t,u,v,x,g,y,⟨U,aa,T,V,Z,Q,R,ag,z,A,h⟩,q⟩:=e;refine ai ⟨ad,f,sa,sl,sc,pa,pl,pc,ka,kl,kc,rfl,X,o,p,r,s,t,u,v,x,g,y,⟨C,U,_,aa,T,V,Z,Q,R,_,z.inside (N:=12),⟨A,h⟩,az i g.size,λb d=>⟨?_,d.2⟩⟩,?_,q⟩
  ·rcases d.1 with m|m
   ·exact(j b m).1
   ·omega
  ·rw[<-h,eE,eE];exact List.length_eraseIdx_le S P
end
theorem P1.new(n:Nat)(x:Tm (n+1))(room:Int)(name:ByteArray)(w:World)(m:name.size<=9223372036854775807)(o:In w.heap.size w (n+1) x)(k:(ax (n+1) x).length<=2097152):am 40 #[af name,df (n+1) x,ab room] w λe w'=>∃p:Option Addr,e=.returned (.tuple #[.pointer p,ab (fX (n+1) x room name)])/\Hid (aj w w'/\(fX (n+1) x room name≠0->p=none)/\(fX (n+1) x room name=0->∃a,p=some ⟨a,0,none⟩/\w.heap.size<=a/\bv (n+1) x=0/\P1 w.heap.size a name room (cn (n+1) x) [] 201 (λb=>w.heap.size<=b/\b<w'.heap.size) w')):=by
 refine(PA n x room name w m o k).mono ?_;rintro e w' ⟨i,j⟩;by_cases c:fX (n+1) x room name=0
 ·obtain⟨a,rfl,g⟩:=j c;obtain⟨q,f,r,v,z,u,y,h,s,t⟩:=g;exact⟨some ⟨a,0,none⟩,by rw[c],f,λd=>absurd c d,λ_=>⟨a,rfl,q,r,w.heap.size,v,[],z,u,y,[],none,0,h,t,⟨s,rfl⟩,f.size,λb d=>d⟩⟩
 ·obtain⟨rfl,l⟩:=i c;exact⟨none,rfl,l,λ_=>rfl,λd=>absurd d c⟩
structure BL where
 b:Nat
 o:Nat
 c:Array Value
 t:TypeId
def tB(p:BL)(a:Option Nat)(w:World):Prop:=(p.o<p.c.size/\p.t≠28)/\w.heap[p.b]?=some (.cells (p.c.setIfInBounds p.o (.map a)) p.t (0,0))
theorem tB.cell{p:BL}{c:Option Nat}{w:World}(a:tB p c w):w.cell? ⟨p.b,p.o,none⟩=some (.map c)/\∀j,w.frozen? ⟨p.b,j,none⟩=false:=by
 refine⟨?_,λj=>by simp[World.frozen?,a.2]⟩;simp[World.cell?,a.2,a.1.1]
theorem tB.lt{p:BL}{c:Option Nat}{w:World}(a:tB p c w):p.b<w.heap.size:=(aF.1 a.2).1
theorem tB.kept{p:BL}{c:Option Nat}{w w':World}(a:tB p c w)(d:w'.heap[p.b]?=w.heap[p.b]?):tB p c w':=⟨a.1,d.trans a.2⟩
theorem tB.set{p:BL}{c mo':Option Nat}{w:World}(a:tB p c w):tB p mo' (w.setCell ⟨p.b,p.o,none⟩ (.map mo')):=by
 refine⟨a.1,?_⟩;simp[World.setCell,bN,a.2]
def g8(base:Nat)(d:BL)(a:Option Nat)(n N:Nat)(f:Int×Int->List (Tm N))(sl:Int×Int->Value)(w:World):Prop:=
 base<=d.b/\tB d a w/\((a=none/\f=(λ_=> [])/\sl=λ_=>mu)\/∃c,a=some c/\GM base c n N f sl w)
def rU(c:BL)(a:Option Nat)(sl:Int×Int->Value)(b:Nat):Prop:=b=c.b\/a=some b\/∃k,I2 k/\(sl k).ownBlock=some b
variable {base n N:Nat} {wp:BL} {mo:Option Nat} {f:Int×Int->List (Tm N)} {sl:Int×Int->Value} {w:World}
theorem g8.lt(c:g8 base wp mo n N f sl w)(b:Nat)(a:rU wp mo sl b):base<=b/\b<w.heap.size:=by
 obtain⟨d,e,g⟩:=c;rcases a with rfl|a
 ·exact⟨d,e.lt⟩
 ·rcases g with⟨rfl,_,rfl⟩|⟨i,rfl,h⟩
  ·rcases a with a|⟨k,_,a⟩
   ·cases a
   ·simp[mu,Value.ownBlock]at a
  ·refine h.lt b ?_;rcases a with a|a
   ·exact ah (aw a).symm
   ·exact ai a
theorem Fh{wp:BL}{c b:Nat}{sl:Int×Int->Value}(a:NQ c sl b):rU wp (some c) sl b:=by
 rcases a with rfl|a
 ·exact ai (ah rfl)
 ·exact ai (ai a)
theorem g8.kee{S:Nat->Prop}{w':World}(c:g8 base wp mo n N f sl w)(k:br S w w')(d:∀b,rU wp mo sl b->¬S b):g8 base wp mo n N f sl w':=by
 have j:=(c.lt wp.b (ah rfl)).2;obtain⟨e,g,a⟩:=c;refine⟨e,g.kept (k.block wp.b j (d wp.b (ah rfl))),?_⟩;rcases a with a|⟨l,rfl,i⟩
 ·exact ah a
 ·exact ai ⟨l,rfl,i.kee k λb h=>d b (Fh h)⟩
theorem g8.later{w':World}(a:g8 base wp mo n N f sl w)(k:aj w w'):g8 base wp mo n N f sl w':=a.kee (aJ k λ_=>False) λ_ _ b=>b
theorem g8.row(a:g8 base wp mo n N f sl w){k:Int×Int}(c:I2 k):nS base N (sl k) (f k) w:=by
 rcases a.2.2 with⟨_,rfl,rfl⟩|⟨d,_,b⟩
 ·exact⟨by simp[dk,cv],ah ⟨rfl,rfl⟩⟩
 ·exact b.row k c
theorem g8.look(b:g8 base wp mo n N f sl w){k:Int×Int}(a:I2 k):(Instr.lookup 87 (.map mo) (pk k) false).run Tryz.prog w=.ok (sl k) w:=by
 rcases b.2.2 with⟨rfl,_,rfl⟩|⟨d,rfl,c⟩
 ·exact GY w a
 ·exact c.look a
theorem g8.cell(a:g8 base wp mo n N f sl w):w.cell? ⟨wp.b,wp.o,none⟩=some (.map mo)/\∀j,w.frozen? ⟨wp.b,j,none⟩=false:=by
 exact a.2.1.cell
theorem nS.sliced{v:Value}{l:List (Tm N)}(d:nS base N v l w):∃a c,v=.slice a l.length c:=by
 rcases d.2 with⟨rfl,b⟩|⟨f,cap,e,rfl,_⟩
 ·exact⟨none,0,by rw[b]⟩
 ·exact⟨_,_,rfl⟩
theorem IY(c:g8 base wp mo n N f sl w){a b:Int}(g:I2 (a,b)):am 158 #[.pointer (some ⟨wp.b,wp.o,none⟩),ab a,ab b] w λe w'=>e=.returned (ab (f (a,b)).length)/\w'=w:=by
 have i:=c.cell.1;obtain⟨sa,sc,h⟩:=(c.row g).sliced;have d:=c.look g;rw[h]at d;unfold pk at d;simp only at d;clear c;go_enter func158,ntmps158;go_wp2_with fail
 go_ret
 exact⟨rfl,rfl⟩
theorem Fs(a:Int)(w:World):am 157 #[ab a] w λe w'=>e=.returned (.bool (decide (1<=a) && decide (a<=99)))/\w'=w:=by
 go_enter func157,ntmps157;by_cases b:1<=a<;>by_cases c:a<=99
 all_goals
  go_wp2_with fail
  go_ret
  simp[b,c]
variable {base mb n N:Nat} {f:Int×Int->List (Tm N)} {sl:Int×Int->Value} {w wr:World}
def N6(base mb n N:Nat)(f:Int×Int->List (Tm N))(sl:Int×Int->Value)(k:Int×Int)(g:Nat)(W e:World):Prop:=
 ∀(a:World)(c:Value)(l:List (Tm N)),a.heap[mb]?=e.heap[mb]? ->br (λb=>b=mb\/(sl k).ownBlock=some b) W a->l≠[]->nS base N c l a->(∀b,c.ownBlock=some b->(sl k).ownBlock=some b\/W.heap.size<=b)->
  ∃d,(Instr.entryStore 87 (.map (some mb)) (goInt g) c).run Tryz.prog a=.ok () d/\GM base mb (n+1) N (iE f k l) (iE sl k c) d/\br (λb=>b=mb) a d/\d.heap.size=a.heap.size
def PY(base mb n N:Nat)(f:Int×Int->List (Tm N))(sl:Int×Int->Value)(k:Int×Int)(y:Tm N)(wr c:World):Prop:=
 ∃a,GM base mb (n+1) N (iE f k (f k++ [y])) (iE sl k a) c/\br (NQ mb sl) wr c/\∀b,NQ mb (iE sl k a) b->NQ mb sl b\/wr.heap.size<=b
theorem GM.open(d:GM base mb n N f sl wr){k:Int×Int}(h:I2 k)(i:n<1000000){W:World}(e:aj wr W):∃(c:Nat)(a:World),(Instr.mapEntry 87 (.map (some mb)) (pk k)).run Tryz.prog W=.ok (.tuple #[sl k,goInt c]) a/\br (λb=>b=mb) W a/\a.heap.size=W.heap.size/\N6 base mb n N f sl k c W a:=
 (d.kee (aJ e λ_=>False) λ_ _ g=>g).entry h i
theorem N6.done(o:GM base mb n N f sl wr){k:Int×Int}(s:I2 k){w L:Nat}{W i j e:World}(B:N6 base mb n N f sl k w W i)(q:aj wr W)(J:br (λb=>b=mb) W i)(M:i.heap.size=W.heap.size)(l:aj i j)(D:j.grownBy e (sl k).ownBlock){g c:Nat}{y:Tm N}(z:(f k).length=L)(F:e.ownsRow base 28 4 (ae (some ⟨g,0,none⟩) (L+1) c) (L+1) (dk N (f k)++vC (gg N y)))(A:(sl k).ownBlock=some g\/g=j.heap.size):∃h,(Instr.entryStore 87 (.map (some mb)) (goInt w) (ae (some ⟨g,0,none⟩) (L+1) c)).run Tryz.prog e=.ok () h/\PY base mb n N f sl k y wr h/\br (λb=>b=mb) e h/\h.heap.size=e.heap.size:=by
 subst z;have K:=o.lt mb (ah rfl);have P:=q.size;have O:=l.size;have v:=eh D;have I:(Value.slice (some ⟨g,0,none⟩) ((f k).length+1) c).ownBlock=some g:=rfl;have u:∀b,(Value.slice (some ⟨g,0,none⟩) ((f k).length+1) c).ownBlock=some b->(sl k).ownBlock=some b\/W.heap.size<=b:=λb d=>by
  rw[I]at d;injection d with d;subst d;rcases A with a|a
  ·exact ah a
  ·exact ai (by omega)
 have p:br (λb=>b=mb\/(sl k).ownBlock=some b) W e:=by
  refine br.trans (br.trans (J.mono λb _ a=>ah a) (aJ l λ_=>False) λ_ _ C=>C.elim) v λb _ a=>ai a
 have E:e.heap[mb]?=i.heap[mb]? :=(v.block mb (by omega) (o.ne s)).trans (l.block mb (by omega))
 obtain⟨h,G,x,t,H⟩:=B e _ (f k++ [y]) E p (by simp) (by
  unfold nS;rw[pP,bk];have a:dk N [y]=vC (gg N y):=by simp[dk,cv]
  rw[a]
  exact F) u
 refine⟨h,G,⟨_,x,?_,λb d=>?_⟩,t,H⟩
 ·refine br.trans (br.trans (aJ q _) (p.mono (T:=λb=>b=mb\/(sl k).ownBlock=some b) λb _ a=>a) λb _ a=>?_) t λb _ a=>ah a;rcases a with a|a
  ·exact ah a
  ·exact ai ⟨k,s,a⟩
 ·rcases d with d|⟨m,r,d⟩
  ·exact ah (ah d)
  ·by_cases a:m=k
   ·subst a;rw[cJ]at d;rcases u b d with a|a
    ·exact ah (ai ⟨m,r,a⟩)
    ·exact ai (by omega)
   ·rw[bT _ _ a]at d;exact ah (ai ⟨m,r,d⟩)
section
variable {ops:Array Oper} {o:Oper} {a:Act} {K:Act->World->Prop} {Q:Exit->Act->World->Prop} {E:Prop}
end
variable {base n N:Nat} {wp:BL} {mo:Option Nat} {f:Int×Int->List (Tm N)} {sl:Int×Int->Value} {w:World}
def Oj(base:Nat)(wp:BL)(mo:Option Nat)(n N:Nat)(f:Int×Int->List (Tm N))(sl:Int×Int->Value)(k:Int×Int)(l:List (Tm N))(w w':World):Prop:=
 ∃a c,g8 base wp a (n+1) N (iE f k l) c w'/\br (rU wp mo sl) w w'/\∀b,rU wp a c b->rU wp mo sl b\/w.heap.size<=b
theorem GK:(Tryz.prog.info? 28).map (λi=>(i.zero,i.size,i.bytes))=some (some (.agg #[ab 0,ab 0,af ⟨#[]⟩,ae none 0 0]),4,56):=by kernel_rfl
theorem Mz(mb:Nat)(W:World):(binOp .eql 87 (.map (some mb)) (.map none)).run Tryz.prog W=.ok (.bool false) W:=by kernel_rfl
theorem My(W:World):(binOp .eql 87 (.map none) (.map none)).run Tryz.prog W=.ok (.bool true) W:=by kernel_rfl
theorem fu{S:Nat->Prop}{W a:World}(c:br S W a){b:Nat}(e:b<W.heap.size)(d:¬S b):∀o v,W.cell? ⟨b,o,none⟩=some v->a.cell? ⟨b,o,none⟩=some v:=λo _ f=>(c.cell o e d).trans f
theorem EQ(wp:BL)(mb:Nat)(i j:Int)(y0 y1:Int)(ys:ByteArray)(ya:Option Addr)(yl yc L sc:Nat)(sa:Option Addr)(xs:List Value)(base:Nat)(w wr:World)(au:World->Nat->World->Prop)(aj:World->Prop)(bb:L<1000)(bd:base<=w.heap.size)(ai:wp.b<w.heap.size)(a2:(mb<w.heap.size/\wp.b≠mb/\wr=(w.alloc (.cells #[.int .i64 i,.int .i64 j] 198)).alloc (.cells #[.int .i64 y0,.int .i64 y1,.string ys,.slice ya yl yc] 28)/\(∀b,(Value.slice sa L sc).ownBlock=some b->b<w.heap.size/\b≠wp.b)/\Hid (w.cell? ⟨wp.b,wp.o,none⟩=some (.map (some mb))))\/(mb=w.heap.size+1+1/\wr=(((w.alloc (.cells #[.int .i64 i,.int .i64 j] 198)).alloc (.cells #[.int .i64 y0,.int .i64 y1,.string ys,.slice ya yl yc] 28)).alloc (.map #[] 0)).setCell ⟨wp.b,wp.o,none⟩ (.map (some mb))/\(∀b,(Value.slice sa L sc).ownBlock=some b->b<w.heap.size/\b≠wp.b)/\Hid (tB wp none w)))(aT:Hid (∀W,br (λb=>b=mb) wr W->W.ownsRow base 28 4 (.slice sa L sc) L xs))(aL:Hid (∀W,Below wr.heap.size wr W->∃(z:Nat)(a:World),(Instr.mapEntry 87 (.map (some mb)) (pk (i,j))).run Tryz.prog W=.ok (.tuple #[.slice sa L sc,goInt z]) a/\(br (λb=>b=mb) W a/\a.heap.size=W.heap.size/\au W z a)))(aU:Hid (∀W z a aa h g c,au W z a->Below wr.heap.size wr W->br (λb=>b=mb) W a->a.heap.size=W.heap.size->Below a.heap.size a aa->aa.grownBy h (Value.slice sa L sc).ownBlock->h.ownsRow base 28 4 (.slice (some ⟨g,0,none⟩) (L+1) c) (L+1) (xs++ [.int .i64 y0,.int .i64 y1,.string ys,.slice ya yl yc])->((Value.slice sa L sc).ownBlock=some g\/g=aa.heap.size)-> ∃l,(Instr.entryStore 87 (.map (some mb)) (goInt z) (.slice (some ⟨g,0,none⟩) (L+1) c)).run Tryz.prog h=.ok () l/\(aj l/\br (λb=>b=mb) h l/\l.heap.size=h.heap.size))):Calls Tryz.prog 159 #[.pointer (some ⟨wp.b,wp.o,none⟩),.agg #[.int .i64 i,.int .i64 j],.agg #[.int .i64 y0,.int .i64 y1,.string ys,.slice ya yl yc]] w λe w'=>e=.returned (.tuple #[])/\aj w':=by
 obtain⟨D,aA,aH,aI,aK⟩:=bP GK;have M:Hid (Tryz.prog.info? 28=some D/\D.zero=some (.agg #[.int .i64 0,.int .i64 0,.string ⟨#[]⟩,.slice none 0 0])/\D.size=4/\D.bytes=56):=⟨aA,aH,aI,aK⟩;clear aA aH aI aK;rcases a2 with⟨ag,ah,m,T,A⟩|⟨ag,m,T,A⟩
 case' inl=>
  have ab:=A.out;have aM:=Mz mb;have O:Hid (∃f d,f=w.heap.size/\d=w.heap.size+1):=⟨_,_,rfl,rfl⟩;go_enter func159,ntmps159;go_wp2_with fail;obtain⟨f,d,x,y⟩:=O.out;rw[<-m,<-y,<-x];have aG:wr.heap.size=w.heap.size+2:=by rw[m];simp
  have al:Hid (Below w.heap.size w wr):=by
   rw[m];exact((ap _ _).alloc (ak _) _).alloc (by simp) _
  have Y:Hid (wr.heap[f]?=some (.cells #[.int .i64 i,.int .i64 j] 198)):=by
   rw[m,x];exact(((ap _ _).alloc (ak _) _).block w.heap.size (by simp)).trans (aE w _)
  have Z:Hid (wr.heap[d]?=some (.cells #[.int .i64 y0,.int .i64 y1,.string ys,.slice ya yl yc] 28)):=by
   rw[m,y];have s:=aE (w.alloc (.cells #[.int .i64 i,.int .i64 j] 198)) (.cells #[.int .i64 y0,.int .i64 y1,.string ys,.slice ya yl yc] 28);have e:(w.alloc (.cells #[.int .i64 i,.int .i64 j] 198)).heap.size=w.heap.size+1:=by simp
   rwa [e]at s
  have V:Hid (wr.cell? ⟨wp.b,wp.o,none⟩=some (.map (some mb))):=(al.cell (p:=⟨wp.b,wp.o,none⟩) ai).trans ab;clear al
 case' inr=>
  have ab:w.cell? ⟨wp.b,wp.o,none⟩=some (.map none):=A.cell.1;have ad:tB wp none (((w.alloc (.cells #[.int .i64 i,.int .i64 j] 198)).alloc (.cells #[.int .i64 y0,.int .i64 y1,.string ys,.slice ya yl yc] 28)).alloc (.map #[] 0)):=A.kept (((((ap w.heap.size w).alloc (ak _) _).alloc (by simp) _).alloc (by simp;omega) _).block wp.b ai);have a9:(((w.alloc (.cells #[.int .i64 i,.int .i64 j] 198)).alloc (.cells #[.int .i64 y0,.int .i64 y1,.string ys,.slice ya yl yc] 28)).alloc (.map #[] 0)).frozen? ⟨wp.b,wp.o,none⟩=false:=ad.cell.2 _;have ba:(((w.alloc (.cells #[.int .i64 i,.int .i64 j] 198)).alloc (.cells #[.int .i64 y0,.int .i64 y1,.string ys,.slice ya yl yc] 28)).alloc (.map #[] 0)).cell? ⟨wp.b,wp.o,none⟩=some (.map none):=ad.cell.1;clear ad;have ah:wp.b≠mb:=by omega
  have aM:=My;have be:= @run_makeMap Tryz.prog;have O:Hid (∃f d,f=w.heap.size/\d=w.heap.size+1):=⟨_,_,rfl,rfl⟩;go_enter func159,ntmps159;go_wp2_with fail;obtain⟨f,d,x,y⟩:=O.out;rw[<-ag,<-m,<-y,<-x];have aG:wr.heap.size=w.heap.size+3:=by rw[m];simp[World.setCell]
  have ae:∀b,b≠wp.b->wr.heap[b]?=(((w.alloc (.cells #[.int .i64 i,.int .i64 j] 198)).alloc (.cells #[.int .i64 y0,.int .i64 y1,.string ys,.slice ya yl yc] 28)).alloc (.map #[] 0)).heap[b]? :=λb C=>by
   rw[m];have:wp.b≠b:=λe=>C e.symm;simp[World.setCell,bN,this]
  have Y:Hid (wr.heap[f]?=some (.cells #[.int .i64 i,.int .i64 j] 198)):=by
   rw[ae f (by omega),x];exact((((ap _ _).alloc (ak _) _).alloc (by simp) _).block w.heap.size (by simp)).trans (aE w _)
  have Z:Hid (wr.heap[d]?=some (.cells #[.int .i64 y0,.int .i64 y1,.string ys,.slice ya yl yc] 28)):=by
   rw[ae d (by omega),y];have s:=aE (w.alloc (.cells #[.int .i64 i,.int .i64 j] 198)) (.cells #[.int .i64 y0,.int .i64 y1,.string ys,.slice ya yl yc] 28);have e:(w.alloc (.cells #[.int .i64 i,.int .i64 j] 198)).heap.size=w.heap.size+1:=by simp
   rw[e]at s;exact(((ap _ _).alloc (ak _) _).block (w.heap.size+1) (by simp)).trans s
  have V:Hid (wr.cell? ⟨wp.b,wp.o,none⟩=some (.map (some mb))):=by
   rw[m];exact(tB.set (mo':=some mb) (A.kept (((((ap w.heap.size w).alloc (ak _) (.cells #[.int .i64 i,.int .i64 j] 198)).alloc (by simp) (.cells #[.int .i64 y0,.int .i64 y1,.string ys,.slice ya yl yc] 28)).alloc (by simp;omega) (.map #[] 0)).block wp.b ai))).cell.1
  clear ae
 all_goals
  have aB:f<wr.heap.size:=by omega
  have aC:d<wr.heap.size:=by omega
  have aD:wp.b<wr.heap.size:=by omega
  have a4:mb<wr.heap.size:=by omega
  have bc:base<=wr.heap.size:=by omega
  have S:f≠mb:=by omega
  have u:d≠mb:=by omega
  have U:∀b,(Value.slice sa L sc).ownBlock=some b->b≠f/\b≠d/\b≠wp.b:=λb C=>⟨by have:=(T b C).1;omega,by have:=(T b C).1;omega,(T b C).2⟩;have N:Hid (∀W,Below wr.heap.size wr W->W.cell? ⟨wp.b,wp.o,none⟩=some (.map (some mb))/\(W.cell? ⟨f,0,none⟩=some (.int .i64 i)/\W.cell? ⟨f,1,none⟩=some (.int .i64 j))/\(W.cell? ⟨d,0,none⟩=some (.int .i64 y0)/\W.cell? ⟨d,1,none⟩=some (.int .i64 y1)/\W.cell? ⟨d,2,none⟩=some (.string ys)/\W.cell? ⟨d,3,none⟩=some (.slice ya yl yc))):=by
   intro W n;have aw:=(n.block f aB).trans Y;have Q:=(n.block d aC).trans Z;exact⟨(n.cell (p:=⟨wp.b,wp.o,none⟩) aD).trans V,⟨by simp[World.cell?,aw],by simp[World.cell?,aw]⟩,by simp[World.cell?,Q],by simp[World.cell?,Q],by simp[World.cell?,Q],by simp[World.cell?,Q]⟩
  have X:Hid (∀B W a,br B W a->wr.heap.size<=W.heap.size->¬B wp.b->¬B f->¬B d->(W.cell? ⟨wp.b,wp.o,none⟩=some (.map (some mb))/\(W.cell? ⟨f,0,none⟩=some (.int .i64 i)/\W.cell? ⟨f,1,none⟩=some (.int .i64 j))/\(W.cell? ⟨d,0,none⟩=some (.int .i64 y0)/\W.cell? ⟨d,1,none⟩=some (.int .i64 y1)/\W.cell? ⟨d,2,none⟩=some (.string ys)/\W.cell? ⟨d,3,none⟩=some (.slice ya yl yc)))->
    a.cell? ⟨wp.b,wp.o,none⟩=some (.map (some mb))/\(a.cell? ⟨f,0,none⟩=some (.int .i64 i)/\a.cell? ⟨f,1,none⟩=some (.int .i64 j))/\(a.cell? ⟨d,0,none⟩=some (.int .i64 y0)/\a.cell? ⟨d,1,none⟩=some (.int .i64 y1)/\a.cell? ⟨d,2,none⟩=some (.string ys)/\a.cell? ⟨d,3,none⟩=some (.slice ya yl yc))):=by
   rintro B W a k bf a6 a7 a8 ⟨E,⟨F,G⟩,H,I,J,K⟩;have aX:=fu k (b:=wp.b) (by omega) a6;have av:=fu k (b:=f) (by omega) a7;have P:=fu k (b:=d) (by omega) a8;exact⟨aX _ _ E,⟨av _ _ F,av _ _ G⟩,P _ _ H,P _ _ I,P _ _ J,P _ _ K⟩
  have an:Hid (∀W a,Below wr.heap.size wr W->br (λb=>b=mb) W a->a.cell? ⟨wp.b,wp.o,none⟩=some (.map (some mb))/\(a.cell? ⟨f,0,none⟩=some (.int .i64 i)/\a.cell? ⟨f,1,none⟩=some (.int .i64 j))/\(a.cell? ⟨d,0,none⟩=some (.int .i64 y0)/\a.cell? ⟨d,1,none⟩=some (.int .i64 y1)/\a.cell? ⟨d,2,none⟩=some (.string ys)/\a.cell? ⟨d,3,none⟩=some (.slice ya yl yc))):=
   λW a n k=>X _ W a k n.size ah S u (N W n)
  have aS:Hid (∀W a h,Below wr.heap.size wr W->br (λb=>b=mb) W a->a.grownBy h (Value.slice sa L sc).ownBlock->h.cell? ⟨wp.b,wp.o,none⟩=some (.map (some mb))/\(h.cell? ⟨f,0,none⟩=some (.int .i64 i)/\h.cell? ⟨f,1,none⟩=some (.int .i64 j))/\(h.cell? ⟨d,0,none⟩=some (.int .i64 y0)/\h.cell? ⟨d,1,none⟩=some (.int .i64 y1)/\h.cell? ⟨d,2,none⟩=some (.string ys)/\h.cell? ⟨d,3,none⟩=some (.slice ya yl yc))):=
   λW a h n k a3=>X _ a h (eh a3) (az n.size k.size) (λe=>(U _ e).2.2 rfl) (λe=>(U _ e).1 rfl) (λe=>(U _ e).2.1 rfl) (an W a n k)
  have q:Hid (Below wr.heap.size wr (wr.alloc (.cells #[.int .i64 y0,.int .i64 y1,.string ys,.slice ya yl yc] 28)).drew):=(show Below _ _ _ by go_grown);have ar:Hid ((wr.alloc (.cells #[.int .i64 y0,.int .i64 y1,.string ys,.slice ya yl yc] 28)).drew.heap.size=wr.heap.size+1):=(show _=_ by simp[World.drew]);have aN:Hid (∀a,br (λb=>b=mb) (wr.alloc (.cells #[.int .i64 y0,.int .i64 y1,.string ys,.slice ya yl yc] 28)).drew a->br (λb=>b=mb) wr a):=λa k=>br.trans (aJ q _) k λ_ _ e=>e
  have aO:Hid (∀a,br (λb=>b=mb) (wr.alloc (.cells #[.int .i64 y0,.int .i64 y1,.string ys,.slice ya yl yc] 28)).drew a->a.heap[wr.heap.size]?=some (.cells #[.int .i64 y0,.int .i64 y1,.string ys,.slice ya yl yc] 28)):=
   λa k=>(k.block wr.heap.size (by rw[ar.out];omega) (by omega)).trans (aE wr _)
  have aR:Hid (∀h l,(h.cell? ⟨wp.b,wp.o,none⟩=some (.map (some mb))/\(h.cell? ⟨f,0,none⟩=some (.int .i64 i)/\h.cell? ⟨f,1,none⟩=some (.int .i64 j))/\(h.cell? ⟨d,0,none⟩=some (.int .i64 y0)/\h.cell? ⟨d,1,none⟩=some (.int .i64 y1)/\h.cell? ⟨d,2,none⟩=some (.string ys)/\h.cell? ⟨d,3,none⟩=some (.slice ya yl yc)))->br (λb=>b=mb) h l->(l.cell? ⟨wp.b,wp.o,none⟩=some (.map (some mb))/\(l.cell? ⟨f,0,none⟩=some (.int .i64 i)/\l.cell? ⟨f,1,none⟩=some (.int .i64 j))/\(l.cell? ⟨d,0,none⟩=some (.int .i64 y0)/\l.cell? ⟨d,1,none⟩=some (.int .i64 y1)/\l.cell? ⟨d,2,none⟩=some (.string ys)/\l.cell? ⟨d,3,none⟩=some (.slice ya yl yc)))):=by
   rintro h l ⟨E,⟨F,G⟩,H,I,J,K⟩ k;have lt:=λ(b o:Nat)(v:Value)(s:h.cell? ⟨b,o,none⟩=some v)=>gV h ⟨b,o,none⟩ s;exact⟨fu k (lt _ _ _ E) ah _ _ E,⟨fu k (lt _ _ _ F) S _ _ F,fu k (lt _ _ _ G) S _ _ G⟩,fu k (lt _ _ _ H) u _ _ H,fu k (lt _ _ _ I) u _ _ I,fu k (lt _ _ _ J) u _ _ J,fu k (lt _ _ _ K) u _ _ K⟩
  obtain⟨E,⟨F,G⟩,H,I,J,K⟩:=N.out wr (ap _ _);obtain⟨z,a,a0,R⟩:=aL _ q;have r:=aq R;have aP:=aq (an _ _ q R.1);have aW:=aq (R.2.1.trans ar);simp only[pk,goInt]at a0;clear R;clear ag x y m O aG V Y Z X ab aB aC aD a4 S u U;go_wp2_with fail
  go_region_held3 (λW=>W.cell? ⟨wp.b,wp.o,none⟩=some (.map (some mb))/\(W.cell? ⟨f,0,none⟩=some (.int .i64 i)/\W.cell? ⟨f,1,none⟩=some (.int .i64 j))/\(W.cell? ⟨d,0,none⟩=some (.int .i64 y0)/\W.cell? ⟨d,1,none⟩=some (.int .i64 y1)/\W.cell? ⟨d,2,none⟩=some (.string ys)/\W.cell? ⟨d,3,none⟩=some (.slice ya yl yc)))
   (first|(go_keep;done)|exact N _ (ap _ _).drew|exact N _ q|exact aP|exact am|exact aQ) ((first
    | (refine step_append_lies _ rfl _ _ 26 rfl base 28 D _ 4 56 underlying26 M.1 M.2.1 M.2.2.1 M.2.2.2 rfl (by decide) (.slice sa L sc) L xs (by simp[Act.eval]) (aT _ (aN _ r.1)) ⟨wr.heap.size,0,none⟩ 1 1 [.int .i64 y0,.int .i64 y1,.string ys,.slice ya yl yc] (by simp[Act.eval]) rfl (World.news_of_block (cs:= #[.int .i64 y0,.int .i64 y1,.string ys,.slice ya yl yc]) (t:=28) (fr:=(0,0)) (aO _ r.1)) (by simp[Value.oneCell']) (by decide) (by unfold maxLen;omega) (by omega) (by have:=aW.out;omega) _ rfl ?_;intro aZ aY h aF af ay a5;have aV:=aU _ _ _ _ _ aZ aY r.2.2 q r.1 r.2.1 (ap _ _) af aF ay;obtain⟨l,a1,ax⟩:=aV;have ao:=aq ax;simp only[goInt]at a1;have am:=aq (aS _ _ _ q r.1 af);have aQ:=aq (aR _ _ am ao.2.1);clear aF af ay a5 ax)))
  exact dZ (v:=.tuple #[]) (by simp[results]) rfl ⟨rfl,ao.1⟩
variable {base n N:Nat} {wp:BL} {mo:Option Nat} {f:Int×Int->List (Tm N)} {sl:Int×Int->Value} {w:World}
theorem nS.at{v:Value}{l:List (Tm N)}(d:nS base N v l w):∃a c,v=.slice a l.length c/\w.ownsRow base 28 4 (.slice a l.length c) l.length (dk N l):=by
 obtain⟨a,c,b⟩:=d.sliced;refine⟨a,c,b,?_⟩;rw[<-b];exact d
theorem FL(y:Tm (N+1)):vC (gg (N+1) y)=[.int .i64 y.1.1,.int .i64 y.1.2.1,.string y.1.2.2,.slice y.2.1.1 y.2.2.length y.2.1.2]:=rfl
theorem wv{mb:Nat}(g:g8 base wp (some mb) n N f sl w):wp.b≠mb:=by
 intro e;obtain⟨_,h,c⟩:=g;rcases c with⟨c,_⟩|⟨l,a,i⟩
 ·cases c
 ·injection a with a;subst a e;obtain⟨j,⟨es,k,d,_⟩,_⟩:=i.map;rw[h.2]at d;cases d
theorem Au(c:g8 base wp mo n N f sl w){k:Int×Int}(g:I2 k):(sl k).ownBlock≠some wp.b:=by
 intro d;obtain⟨h,a⟩:=ei (c.row g) wp.b d;rw[c.2.1.2]at a;injection a with a;injection a with _ e _;exact c.2.1.1.2 e
theorem L7{f:Int×Int->List (Tm (N+1))}(d:g8 base wp mo n (N+1) f sl w){k:Int×Int}(i:I2 k)(y:Tm (N+1))(ab:n<999999)(V:(f k).length<1000):Calls Tryz.prog 159 #[.pointer (some ⟨wp.b,wp.o,none⟩),pk k,df (N+1) y] w λe w'=>e=.returned (.tuple #[])/\Oj base wp mo n (N+1) f sl k (f k++ [y]) w w':=by
 have u:=d.lt wp.b (ah rfl);rcases d.2.2 with⟨rfl,rfl,rfl⟩|⟨mb,rfl,C⟩
 ·obtain⟨wr,j⟩:∃wr,wr=(((w.alloc (.cells #[.int .i64 k.1,.int .i64 k.2] 198)).alloc (.cells #[.int .i64 y.1.1,.int .i64 y.1.2.1,.string y.1.2.2,.slice y.2.1.1 y.2.2.length y.2.1.2] 28)).alloc (.map #[] 0)).setCell ⟨wp.b,wp.o,none⟩ (.map (some (w.heap.size+1+1))):=⟨_,rfl⟩;have X:wr.heap.size=w.heap.size+3:=by rw[j];simp[World.setCell]
  have S:br (λb=>b=wp.b) w wr:=by
   rw[j];refine br.trans (aJ (((((ap w.heap.size w).alloc (ak _) _).alloc (by simp) _).alloc (by simp;omega) _)) _) (bD _ wp.b wp.o _) λ_ _ e=>e
  have Y:tB wp (some (w.heap.size+1+1)) wr:=by
   rw[j];exact(d.2.1.kept (((((ap w.heap.size w).alloc (ak _) (.cells #[.int .i64 k.1,.int .i64 k.2] 198)).alloc (by simp) (.cells #[.int .i64 y.1.1,.int .i64 y.1.2.1,.string y.1.2.2,.slice y.2.1.1 y.2.2.length y.2.1.2] 28)).alloc (by simp;omega) (.map #[] 0)).block wp.b u.2)).set
  have l:GM base (w.heap.size+1+1) n (N+1) (λ_=> []) (λ_=>mu) wr:=by
   have O:=GM.new ((w.alloc (.cells #[.int .i64 k.1,.int .i64 k.2] 198)).alloc (.cells #[.int .i64 y.1.1,.int .i64 y.1.2.1,.string y.1.2.2,.slice y.2.1.1 y.2.2.length y.2.1.2] 28)) (N+1);have e:((w.alloc (.cells #[.int .i64 k.1,.int .i64 k.2] 198)).alloc (.cells #[.int .i64 y.1.1,.int .i64 y.1.2.1,.string y.1.2.2,.slice y.2.1.1 y.2.2.length y.2.1.2] 28)).heap.size=w.heap.size+1+1:=by simp
   rw[e]at O
   have P:=(O.kee (bD _ wp.b wp.o (.map (some (w.heap.size+1+1)))) λb a e=>by
    rcases a with a|⟨v,_,a⟩
    ·omega
    ·simp[mu,Value.ownBlock]at a)
   rw[<-j]at P;exact(P.rebase (by omega)).mono (aI _)
  refine(EQ wp (w.heap.size+1+1) k.1 k.2 y.1.1 y.1.2.1 y.1.2.2 y.2.1.1 y.2.2.length y.2.1.2 0 0 none [] base w wr (λh q m=>N6 base (w.heap.size+1+1) n (N+1) (λ_=> []) (λ_=>mu) k q h m) (λw'=>Oj base wp none n (N+1) (λ_=> []) (λ_=>mu) k ([]++ [y]) w w') (by omega) (by omega) u.2 (ai ⟨rfl,j,λb a=>by simp[Value.ownBlock]at a,d.2.1⟩) ?_ ?_ ?_).mono λe w' d=>d
  ·intro h g;exact⟨rfl,ah ⟨rfl,rfl⟩⟩
  ·intro h g;exact l.open i (by omega) g
  ·intro h q m Q aa R c B g E I A s G r;obtain⟨M,H,D,F,J⟩:=N6.done l i B g E I A s (y:=y) (L:=0) rfl (by simpa [dk,cv,FL]using G) r;refine⟨M,H,?_,F,J⟩;obtain⟨Z,x,p,z⟩:=D;have K:¬NQ (w.heap.size+1+1) (λ_=>mu) wp.b:=by
    rintro (e|⟨v,_,e⟩)
    ·omega
    ·simp[mu,Value.ownBlock]at e
   refine⟨some (w.heap.size+1+1),_,⟨d.1,Y.kept (p.block wp.b (by omega) K),ai ⟨_,rfl,x⟩⟩,?_,λb a=>?_⟩
   ·refine br.trans (S.mono λb _ e=>ah e) p λb a e=>?_;rcases e with e|⟨v,_,e⟩
    ·omega
    ·simp[mu,Value.ownBlock]at e
   ·rcases a with a|a|a
    ·exact ah (ah a)
    ·injection a with a;exact ai (by omega)
    ·rcases z b (ai a)with(e|⟨v,_,e⟩)|e
     ·exact ai (by omega)
     ·simp[mu,Value.ownBlock]at e
     ·exact ai (by omega)
 ·obtain⟨sa,sc,t,ad⟩:=(C.row k i).at;have W:=C.lt mb (ah rfl);obtain⟨wr,j⟩:∃wr,wr=(w.alloc (.cells #[.int .i64 k.1,.int .i64 k.2] 198)).alloc (.cells #[.int .i64 y.1.1,.int .i64 y.1.2.1,.string y.1.2.2,.slice y.2.1.1 y.2.2.length y.2.1.2] 28):=⟨_,rfl⟩;have a:Below w.heap.size w wr:=by
   rw[j];exact((ap _ _).alloc (ak _) _).alloc (by simp) _
  have X:wr.heap.size=w.heap.size+2:=by rw[j];simp
  have l:GM base mb n (N+1) f sl wr:=C.kee (aJ a λ_=>False) λ_ _ T=>T;refine(EQ wp mb k.1 k.2 y.1.1 y.1.2.1 y.1.2.2 y.2.1.1 y.2.2.length y.2.1.2 (f k).length sc sa (dk (N+1) (f k)) base w wr (λh q m=>N6 base mb n (N+1) f sl k q h m) (λw'=>Oj base wp (some mb) n (N+1) f sl k (f k++ [y]) w w') V (by omega) u.2 (ah ⟨W.2,wv d,j,λb a=>?_,d.cell.1⟩) ?_ ?_ ?_).mono λe w' d=>d
  ·rw[<-t]at a;exact⟨((d.row i).lt b a).2,λe=>Au d i (by rw[a,e])⟩
  ·intro h g;rw[<-t];exact bi (l.row k i) g λb a e=>l.ne i (by rw[a,e])
  ·intro h g;rw[<-t];exact l.open i (by omega) g
  ·intro h q m Q aa R c B g E I A s G r;rw[<-t]at s r;obtain⟨M,H,D,F,J⟩:=N6.done l i B g E I A s (y:=y) (L:=(f k).length) rfl (by simpa [FL]using G) r;refine⟨M,H,?_,F,J⟩;obtain⟨Z,x,p,z⟩:=D;have K:¬NQ mb sl wp.b:=by
    rintro (e|⟨v,U,e⟩)
    ·exact wv d e
    ·exact Au d U e
   refine⟨some mb,_,⟨d.1,(d.2.1.kept (a.block wp.b u.2)).kept (p.block wp.b (by omega) K),ai ⟨_,rfl,x⟩⟩,?_,λb a=>?_⟩
   ·exact br.trans (aJ a _) p λb _ e=>Fh e
   ·rcases a with a|a|a
    ·exact ah (ah a)
    ·injection a with a;exact ah (ai (ah (by rw[a])))
    ·rcases z b (ai a)with e|e
     ·exact ah (Fh e)
     ·exact ai (by omega)
def gO(b c:Bool)(a:Int)(cl:Bool)(L:Nat):Int:=if b=false\/c=false then 1 else if a≠0 then a else if cl=false then 5 else if 20<=L then 2 else 0
theorem EL(wp:BL)(a b:Int)(k l:Int)(s:ByteArray)(h:Option Addr)(j i:Nat)(v g:Bool)(d:Int)(cl:Bool)(L:Nat)(w:World)(C:Int->Int->ByteArray->Option Addr->Nat->Nat->World->World->Prop)(I:World->Prop)(ai:L<=1000)(O:Hid (∀W,am 157 #[ab a] W λe w'=>e=.returned (.bool v)/\w'=W))(P:Hid (∀W,am 157 #[ab b] W λe w'=>e=.returned (.bool g)/\w'=W))(U:Hid (∀W,aj w W->am 23 #[.agg #[ab k,ab l,af s,ae h j i]] W λe w'=>e=.returned (ab d)/\aj W w'))(V:Hid (∀W,aj w W->am 75 #[.agg #[ab k,ab l,af s,ae h j i]] W λe w'=>e=.returned (.bool cl)/\aj W w'))(X:Hid (∀W,aj w W->am 158 #[.pointer (some ⟨wp.b,wp.o,none⟩),ab a,ab b] W λe w'=>e=.returned (ab L)/\w'=W))(S:Hid (∀W,d=0->aj w W->am 24 #[.agg #[ab k,ab l,af s,ae h j i]] W λe w'=>∃n p u q t r,e=.returned (.agg #[ab n,ab p,af u,ae q t r])/\Hid (C n p u q t r W w')))(Q:Hid (∀n p u q t r W w1,gO v g d cl L=0->C n p u q t r W w1->aj w W->am 159 #[.pointer (some ⟨wp.b,wp.o,none⟩),.agg #[ab a,ab b],.agg #[ab n,ab p,af u,ae q t r]] w1 λe w'=>e=.returned (.tuple #[])/\Hid (I w'))):am 125 #[.pointer (some ⟨wp.b,wp.o,none⟩),ab a,ab b,.agg #[ab k,ab l,af s,ae h j i]] w λe w'=>e=.returned (ab (gO v g d cl L))/\(gO v g d cl L≠0->aj w w')/\(gO v g d cl L=0->I w'):=by
 have M:Hid (∃m f,m=w.alloc (.cells #[ab k,ab l,af s,ae h j i] 28)/\f=w.heap.size):=⟨_,_,rfl,rfl⟩;go_enter func125,ntmps125;go_wp2_with fail;obtain⟨m,f,B,H⟩:=M.out;rw[<-B,<-H];have x:Hid (aj w m):=by
  rw[B];exact(ap _ _).alloc (ak _) _
 have K:Hid (m.heap[f]?=some (.cells #[ab k,ab l,af s,ae h j i] 28)/\f<m.heap.size):=by
  rw[B,H];exact⟨aE w _,by simp⟩
 have E:Hid (∀W,aj m W->W.cell? ⟨f,0,none⟩=some (ab k)/\W.cell? ⟨f,1,none⟩=some (ab l)/\W.cell? ⟨f,2,none⟩=some (af s)/\W.cell? ⟨f,3,none⟩=some (ae h j i)):=by
  intro W aa;have c:=(aa.block f K.2).trans K.1;exact⟨ag c 0,ag c 1,ag c 2,ag c 3⟩
 clear B H M;refine(O m).mono ?_;rintro e w1 ⟨rfl,rfl⟩;cases v
 ·go_wp2_with fail
  go_ret
  have e:gO false g d cl L=1:=by simp[gO]
  rw[e];exact⟨rfl,λ_=>x,λc=>by cases c⟩
 ·go_wp2_with fail;refine(P _).mono ?_;rintro e an ⟨rfl,rfl⟩;cases g
  ·go_wp2_with fail
   go_ret
   have e:gO true false d cl L=1:=by simp[gO]
   rw[e];exact⟨rfl,λ_=>x,λc=>by cases c⟩
  ·obtain⟨t0,t1,t2,t3⟩:=E.out _ (ap _ _);go_wp2_with fail;refine(U _ x).mono ?_;rintro e ao ⟨rfl,F⟩;have D:=aq F;have A:=aq (x.trans (F.mono x.size));clear F t0 t1 t2 t3;by_cases z:d=0;rotate_left
   ·have al:¬(0:Int)=d:=λe=>z e.symm;go_wp2_with fail
    go_ret
    have e:gO true true d cl L=d:=by simp[gO,z]
    rw[e];exact⟨rfl,λ_=>A,λc=>absurd c z⟩
   ·obtain⟨t0,t1,t2,t3⟩:=E.out _ D;have ah:=aq z;subst z;go_wp2_with fail;refine(V _ A).mono ?_;rintro e ar ⟨rfl,G⟩;have R:=aq (D.trans (G.mono D.size));have y:=aq (A.trans (G.mono A.size));clear G t0 t1 t2 t3;cases cl
    ·go_wp2_with fail
     go_ret
     have e:gO true true 0 false L=5:=by simp[gO]
     rw[e];exact⟨rfl,λ_=>y,λc=>by cases c⟩
    ·go_wp2_with fail;refine(X _ y).mono ?_;rintro e au ⟨rfl,rfl⟩;by_cases N:20<=L
     ·have Z:(20:Int)<=(L:Int):=by omega
      go_wp2_with fail
      go_ret
      have e:gO true true 0 true L=2:=by simp[gO,N]
      rw[e];exact⟨rfl,λ_=>y,λc=>by cases c⟩
     ·have Z:¬(20:Int)<=(L:Int):=by omega
      have J:Hid (gO true true 0 true L=0):=(show gO true true 0 true L=0 by simp[gO,N]);obtain⟨t0,t1,t2,t3⟩:=E _ R;go_wp2_with fail;refine(S _ (by simp) y).mono ?_;rintro e ad ⟨n,p,u,q,t,r,rfl,Y⟩;go_wp2_with fail;refine(Q n p u q t r _ ad J Y y).mono ?_;rintro e av ⟨rfl,T⟩;go_wp2_with fail
      go_ret
      rw[J.out];exact⟨rfl,λc=>absurd rfl c,λ_=>T⟩
theorem EH{n:Nat}{x:Tm n}(a:bv n x=0):aD ⟨n,x⟩:=by
 rw[aL];rw[<-gj]at a;unfold wV at a;split at a
 ·rename_i b;simpa using b
 ·cases a
variable {base n N:Nat} {wp:BL} {mo:Option Nat} {f:Int×Int->List (Tm (N+1))} {sl:Int×Int->Value} {w:World}
def M2(a:Int):Bool:=decide (1<=a) && decide (a<=99)
def nK(N:Nat)(a b:Int)(x:Tm (N+1))(L:Nat):Int:=gO (M2 a) (M2 b) (bv (N+1) x) (aK (N+1) x) L
def Jd(base:Nat)(wp:BL)(mo:Option Nat)(n N:Nat)(f:Int×Int->List (Tm (N+1)))(sl:Int×Int->Value)(k:Int×Int)(x:Tm (N+1))(w w':World):Prop:=
 ∃a c d,ay (N+1) a (N+1) x=true/\g8 base wp c (n+1) (N+1) (iE f k (f k++ [a])) d w'/\br (rU wp mo sl) w w'/\(∀b,rU wp c d b->rU wp mo sl b\/w.heap.size<=b)/\In w'.heap.size w' (N+1) a/\cd (λb=>w.heap.size<=b/\¬rU wp c d b) (N+1) a
theorem K9(i:g8 base wp mo n (N+1) f sl w){a b:Int}(p:I2 (a,b))(x:Tm (N+1))(m:In w.heap.size w (N+1) x)(D:(ax (N+1) x).length<=2097152)(H:n<999999)(G:(f (a,b)).length<=1000):am 125 #[.pointer (some ⟨wp.b,wp.o,none⟩),ab a,ab b,df (N+1) x] w λe w'=>e=.returned (ab (nK N a b x (f (a,b)).length))/\(nK N a b x (f (a,b)).length≠0->aj w w')/\(nK N a b x (f (a,b)).length=0->Jd base wp mo n N f sl (a,b) x w w'):=by
 refine EL wp a b x.1.1 x.1.2.1 x.1.2.2 x.2.1.1 x.2.2.length x.2.1.2 (M2 a) (M2 b) (bv (N+1) x) (aK (N+1) x) (f (a,b)).length w
  (λu v B y A z g w'=>∃c:Tm (N+1),(u=c.1.1/\v=c.1.2.1/\B=c.1.2.2/\y=c.2.1.1/\A=c.2.2.length/\z=c.2.1.2)/\aj g w'/\In w'.heap.size w' (N+1) c/\cd (λM=>g.heap.size<=M) (N+1) c/\ay (N+1) c (N+1) x=true)
  (λw'=>Jd base wp mo n N f sl (a,b) x w w') G (λg=>Fs a g) (λg=>Fs b g) (λg d=>?_) (λg d=>?_) (λg d=>?_) (λg F d=>?_) ?_
 ·exact dC (N+1) x w.heap.size g (m.below d) d.size D
 ·exact iH (N+1) x w.heap.size g (m.below d) d.size
 ·exact IY (i.later d) p
 ·refine(ie (N+1) x w.heap.size g (m.below d) d.size (EH F)).mono ?_;rintro e w' ⟨c,rfl,I⟩;exact⟨c.1.1,c.1.2.1,c.1.2.2,c.2.1.1,c.2.2.length,c.2.1.2,rfl,⟨c,⟨rfl,rfl,rfl,rfl,rfl,rfl⟩,I⟩⟩
 ·rintro u v B y A z g P h ⟨c,⟨rfl,rfl,rfl,rfl,rfl,rfl⟩,E,q,r,J⟩ d;have l:aj w P:=d.trans (E.mono d.size);have C:(f (a,b)).length<1000:=by
   by_cases Q:20<=(f (a,b)).length
   ·exfalso;unfold gO at h;split at h
    ·cases h
    ·split at h
     ·contradiction
     ·split at h
      ·cases h
      ·first|cases h|(split at h<;>first|cases h|contradiction)
   ·omega
  refine(L7 (i.later l) p c H C).mono ?_;rintro e w' ⟨rfl,L,O,K,s,t⟩;refine⟨rfl,c,L,O,J,K,br.trans (aJ l _) s λ_ _ e=>e,λb j=>?_,?_,?_⟩
  ·rcases t b j with e|e
   ·exact ah e
   ·exact ai (az l.size e)
  ·refine q.kee s (r.mono λb j k=>?_);have:=(i.lt b k).2;have:=d.size;omega
  ·refine(In.offB r q).mono λb j=>⟨az d.size j.1,λk=>?_⟩;rcases t b k with e|e
   ·have:=(i.lt b e).2;have:=d.size;omega
   ·omega
theorem Io(wp:BL)(mo:Option Nat)(a b:Int)(w:World)(F:wp.b<w.heap.size)(y:Hid (w.cell? ⟨wp.b,wp.o,none⟩=some (.map mo)))(z:Hid (∀W,aj w W->(Instr.lookup 87 (.map mo) (.agg #[ab a,ab b]) false).run Tryz.prog W=.ok (ae none 0 0) W)):am 72 #[.pointer (some ⟨wp.b,wp.o,none⟩),ab a,ab b] w λe w'=>e=.returned (.tuple #[.agg #[ab 0,ab 0,af ⟨#[]⟩,ae none 0 0],ab 4])/\aj w w':=by
 have t:=y.out;have s:Hid (∃wr c d,wr=(w.alloc (.cells #[ab 0,ab 0,af ⟨#[]⟩,ae none 0 0] 28)).alloc (.cells #[ab a,ab b] 198)/\c=w.heap.size/\d=w.heap.size+1):=⟨_,_,_,rfl,rfl,rfl⟩;go_enter func72,ntmps72;go_wp2_with fail;obtain⟨wr,c,d,f,l,m⟩:=s.out;rw[<-f,<-m,<-l];have E:wr.heap.size=w.heap.size+2:=by rw[f];simp
 have HB:Hid (aj w wr):=by
  rw[f];exact((ap _ _).alloc (ak _) _).alloc (by simp) _
 have A:Hid (wr.heap[c]?=some (.cells #[ab 0,ab 0,af ⟨#[]⟩,ae none 0 0] 28)):=by
  rw[f,l];exact(((ap _ _).alloc (ak _) _).block w.heap.size (by simp)).trans (aE w _)
 have B:Hid (wr.heap[d]?=some (.cells #[ab a,ab b] 198)):=by
  rw[f,m];have C:=aE (w.alloc (.cells #[ab 0,ab 0,af ⟨#[]⟩,ae none 0 0] 28)) (.cells #[ab a,ab b] 198);have e:(w.alloc (.cells #[ab 0,ab 0,af ⟨#[]⟩,ae none 0 0] 28)).heap.size=w.heap.size+1:=by simp
  rwa [e]at C
 have k:Hid (c<wr.heap.size/\d<wr.heap.size/\wp.b<wr.heap.size/\w.heap.size<=c/\w.heap.size<=d/\wp.b<w.heap.size):=(show _/\_ by omega);have r:Hid (∀W,aj wr W->W.cell? ⟨wp.b,wp.o,none⟩=some (.map mo)/\W.cell? ⟨d,0,none⟩=some (ab a)/\W.cell? ⟨d,1,none⟩=some (ab b)):=by
  intro W j;have u:=(j.block d k.2.1).trans B;exact⟨((j.cell (p:=⟨wp.b,wp.o,none⟩) k.2.2.1).trans (HB.cell (p:=⟨wp.b,wp.o,none⟩) F)).trans t,ag u 0,ag u 1⟩
 have q:Hid (aj wr wr.drew):=(ap _ _).drew;have n:Hid (∀W,aj wr W->aj w W):=λW j=>HB.trans (j.mono HB.size);have K:=z _ (n _ q);obtain⟨L,M,N⟩:=r.out wr (ap _ _);clear f l m s E t;go_region_held3 (λW=>W.cell? ⟨wp.b,wp.o,none⟩=some (.map mo)/\W.cell? ⟨d,0,none⟩=some (ab a)/\W.cell? ⟨d,1,none⟩=some (ab b)) (first|(go_keep;done)|exact r _ q) (fail);have g:=A.out;have G:wr.cell? ⟨c,0,none⟩=some (ab 0):=ag g 0;have H:wr.cell? ⟨c,1,none⟩=some (ab 0):=ag g 1;have I:wr.cell? ⟨c,2,none⟩=some (af ⟨#[]⟩):=ag g 2;have J:wr.cell? ⟨c,3,none⟩=some (ae none 0 0):=ag g 3;have h:∀x,wr.frozen? ⟨c,x,none⟩=false:=λx=>by simp[World.frozen?,g]
 have f0:=h 0;have f1:=h 1;have f2:=h 2;have f3:=h 3;clear h g;have i:=aq k.2.2.2.1;go_wp2_with fail;refine av (v:=.tuple #[.agg #[ab 0,ab 0,af ⟨#[]⟩,ae none 0 0],ab 4]) (by simp[results,results72,go_sem,G,H,I,J]) rfl ⟨rfl,?_⟩;have D:=n _ (ap _ _);exact((((D.setCell i.out _).setCell i.out _).setCell i.out _).setCell i.out _).drew
theorem yp(wp:BL)(mb g c m:Nat)(y0 y1:Int)(ys:ByteArray)(ya:Option Addr)(yl yc:Nat)(a b:Int)(w:World)(F:World->Prop)(R:World->World->Prop)(aV:wp.b<w.heap.size)(L:g<w.heap.size)(a2:mb<w.heap.size)(aS:wp.b≠mb)(aQ:wp.b≠g)(aG:Hid (w.cell? ⟨wp.b,wp.o,none⟩=some (.map (some mb))))(an:Hid (∀W,aj w W->(Instr.lookup 87 (.map (some mb)) (.agg #[ab a,ab b]) false).run Tryz.prog W=.ok (ae (some ⟨g,0,none⟩) (m+1) c) W))(aL:Hid (w.cell? ⟨g,0,none⟩=some (ab y0)/\w.cell? ⟨g,1,none⟩=some (ab y1)/\w.cell? ⟨g,2,none⟩=some (af ys)/\w.cell? ⟨g,3,none⟩=some (ae ya yl yc)))(aO:(m=0/\Hid (∀W,aj w W->∃w',(∀ty,(Builtin.delete_ #[87,198] ty #[.map (some mb),.agg #[ab a,ab b]]).run Tryz.prog W=.ok (.tuple #[]) w')/\br (λb=>b=mb) W w'/\w'.heap.size=W.heap.size/\∀w2,Below w.heap.size w' w2->F w2))\/(1<=m/\m<=1000/\Hid (∀W,aj w W->am 104 #[ae (some ⟨g,0,none⟩) (m+1) c,ab 0,ab 1] W λe w'=>e=.returned (ae (some ⟨g,0,none⟩) m c)/\Hid (W.grownBy w' (some g)/\R W w'))/\Hid (∀W G,R W G->aj w W->W.grownBy G (some g)->∃w',(Instr.mapUpdate 87 (.map (some mb)) (.agg #[ab a,ab b]) (ae (some ⟨g,0,none⟩) m c)).run Tryz.prog G=.ok () w'/\br (λb=>b=mb) G w'/\∀w2,Below w.heap.size w' w2->F w2))):am 72 #[.pointer (some ⟨wp.b,wp.o,none⟩),ab a,ab b] w λe w'=>e=.returned (.tuple #[.agg #[ab y0,ab y1,af ys,ae ya yl yc],ab 0])/\F w':=by
 have az:=aG.out;have ax:Hid (∃wr f h,wr=(w.alloc (.cells #[ab 0,ab 0,af ⟨#[]⟩,ae none 0 0] 28)).alloc (.cells #[ab a,ab b] 198)/\f=w.heap.size/\h=w.heap.size+1):=⟨_,_,_,rfl,rfl,rfl⟩;go_enter func72,ntmps72;go_wp2_with fail;obtain⟨wr,f,h,t,Q,S⟩:=ax.out;rw[<-t,<-S,<-Q];have aU:wr.heap.size=w.heap.size+2:=by rw[t];simp
 have HB:Hid (aj w wr):=by
  rw[t];exact((ap _ _).alloc (ak _) _).alloc (by simp) _
 have aJ:Hid (wr.heap[f]?=some (.cells #[ab 0,ab 0,af ⟨#[]⟩,ae none 0 0] 28)):=by
  rw[t,Q];exact(((ap _ _).alloc (ak _) _).block w.heap.size (by simp)).trans (aE w _)
 have au:Hid (wr.heap[h]?=some (.cells #[ab a,ab b] 198)):=by
  rw[t,S];have I:=aE (w.alloc (.cells #[ab 0,ab 0,af ⟨#[]⟩,ae none 0 0] 28)) (.cells #[ab a,ab b] 198);have e:(w.alloc (.cells #[ab 0,ab 0,af ⟨#[]⟩,ae none 0 0] 28)).heap.size=w.heap.size+1:=by simp
  rwa [e]at I
 have u:Hid (f<wr.heap.size/\h<wr.heap.size/\wp.b<wr.heap.size/\w.heap.size<=f/\w.heap.size<=h/\wp.b<w.heap.size):=(show _/\_ by omega);have P:Hid (∀W,aj wr W->W.cell? ⟨wp.b,wp.o,none⟩=some (.map (some mb))/\W.cell? ⟨h,0,none⟩=some (ab a)/\W.cell? ⟨h,1,none⟩=some (ab b)):=by
  intro W r;have B:=(r.block h u.2.1).trans au;exact⟨((r.cell (p:=⟨wp.b,wp.o,none⟩) u.2.2.1).trans (HB.cell (p:=⟨wp.b,wp.o,none⟩) aV)).trans az,ag B 0,ag B 1⟩
 have al:Hid (aj wr wr.drew):=(ap _ _).drew;have ai:Hid (∀W,aj wr W->aj w W):=λW r=>HB.trans (r.mono HB.size);have aP:=an _ (ai _ al);obtain⟨aC,aD,aF⟩:=P.out wr (ap _ _);clear t Q S ax aU az;go_region_held3 (λW=>W.cell? ⟨wp.b,wp.o,none⟩=some (.map (some mb))/\W.cell? ⟨h,0,none⟩=some (ab a)/\W.cell? ⟨h,1,none⟩=some (ab b)) (first|(go_keep;done)|exact P _ al) (fail);obtain⟨T,U,V,X⟩:=aL;have A:=ar HB;replace T:=(A _ _ L).trans T;replace U:=(A _ _ L).trans U;replace V:=(A _ _ L).trans V;replace X:=(A _ _ L).trans X;clear A;rcases aO with⟨rfl,N⟩|⟨a0,a1,N,aK⟩
 case' inl=>simp only[dc]at an
 case' inr=>
  have a6:¬((m:Int)+1=0):=by omega
  have a7:¬((m:Int)+1=1):=by omega
  have a8:(0:Int)<(m:Int)+1:=by omega
 all_goals
  have ay:Hid (∃i n,(i=(wr.alloc (.cells #[ab y0,ab y1,af ys,ae ya yl yc] 28)).drew/\n=wr.heap.size)/\aj wr i/\i.heap[n]?=some (.cells #[ab y0,ab y1,af ys,ae ya yl yc] 28)/\n<i.heap.size/\wr.heap.size<=n):=⟨_,_,⟨rfl,rfl⟩,(show Below _ _ _ by go_grown),aE wr _,by simp[World.drew],ak _⟩;go_wp2_with fail;obtain⟨i,n,⟨aB,aA⟩,l⟩:=ay.out;rw[<-aB,<-aA];replace l:=aq l;clear aB aA ay aC aD aF aP T U V X;have ah:=aq (ai _ l.1);have x:Hid (∀W:World,(∀b,b<i.heap.size->b≠mb->b≠g->W.heap[b]?=i.heap[b]?)->(W.cell? ⟨wp.b,wp.o,none⟩=some (.map (some mb))/\W.cell? ⟨h,0,none⟩=some (ab a)/\W.cell? ⟨h,1,none⟩=some (ab b))/\(W.cell? ⟨n,0,none⟩=some (ab y0)/\W.cell? ⟨n,1,none⟩=some (ab y1)/\W.cell? ⟨n,2,none⟩=some (af ys)/\W.cell? ⟨n,3,none⟩=some (ae ya yl yc))/\(W.heap[f]?=some (.cells #[ab 0,ab 0,af ⟨#[]⟩,ae none 0 0] 28))):=by
   intro W r;obtain⟨aW,aX,a9,ba,bb,bc⟩:=u.out;have a4:=l.1.size;have a3:=l.2.2.2;have B:=(r h (by omega) (by omega) (by omega)).trans ((l.1.block h aX).trans au);have aM:=(r f (by omega) (by omega) (by omega)).trans ((l.1.block f aW).trans aJ);have H:=(r n l.2.2.1 (by omega) (by omega)).trans l.2.1;have aN:=r wp.b (by omega) aS aQ;refine⟨⟨?_,ag B 0,ag B 1⟩,⟨ag H 0,ag H 1,ag H 2,ag H 3⟩,aM⟩;have I:=(P i l.1).1;simp only[World.cell?,aN]at I ⊢;exact I
  have aH:Hid (aj i i.drew):=(ap _ _).drew;have M:=aq (ah.trans (aH.mono ah.size));obtain⟨⟨aC,aD,aF⟩,_,_⟩:=x.out i (λ_ _ _ _=>rfl);have ao:=aq (x i.drew (λ_ _ _ _=>rfl)).1
 ·go_region_held3 (λW=>W.cell? ⟨wp.b,wp.o,none⟩=some (.map (some mb))/\W.cell? ⟨h,0,none⟩=some (ab a)/\W.cell? ⟨h,1,none⟩=some (ab b)) (first|(go_keep;done)|exact ao|exact aI.1|exact y.1)
    ((first|(go_at_call 104;refine(N _ M).mono ?_;rintro e aY ⟨rfl,z⟩;obtain⟨d,a5,D,C⟩:=aK _ _ z.2 M z.1;have aI:=aq (x aY (λb s J K=>z.1.block b s (λe=>K (aw e))));have y:=aq (x d (λb s J K=>(D.block b (aR s z.1.size) J).trans (z.1.block b s (λe=>K (aw e)))));have O:=aq C;clear D C)))
  obtain⟨_,⟨t0,t1,t2,t3⟩,j⟩:=y.out;have Y:d.cell? ⟨f,0,none⟩=some (ab 0):=ag j 0;have Z:d.cell? ⟨f,1,none⟩=some (ab 0):=ag j 1;have aa:d.cell? ⟨f,2,none⟩=some (af ⟨#[]⟩):=ag j 2;have ad:d.cell? ⟨f,3,none⟩=some (ae none 0 0):=ag j 3;have k:∀E,d.frozen? ⟨f,E,none⟩=false:=λE=>by simp[World.frozen?,j]
  have f0:=k 0;have f1:=k 1;have f2:=k 2;have f3:=k 3;have q:=aq u.2.2.2.1;clear k j;go_wp2_with fail;refine av (v:=.tuple #[.agg #[ab y0,ab y1,af ys,ae ya yl yc],ab 0]) (by simp[results,results72,go_sem,Y,Z,aa,ad]) rfl ⟨rfl,?_⟩;exact O.out _ (((((ap w.heap.size d).setCell q.out _).setCell q.out _).setCell q.out _).setCell q.out _)
 ·obtain⟨d,aZ,D,aT,C⟩:∃d,(∀ty,(Builtin.delete_ #[87,198] ty #[.map (some mb),.agg #[ab a,ab b]]).run Tryz.prog i.drew=.ok (.tuple #[]) d)/\br (λb=>b=mb) i.drew d/\d.heap.size=i.drew.heap.size/\∀w2,Below w.heap.size d w2->F w2:=N _ M;have y:=aq (x d (λb s J K=>D.block b s J));have O:=aq C;clear D aT C;go_region_held3 (λW=>W.cell? ⟨wp.b,wp.o,none⟩=some (.map (some mb))/\W.cell? ⟨h,0,none⟩=some (ab a)/\W.cell? ⟨h,1,none⟩=some (ab b)) (first|(go_keep;done)|exact ao|exact y.1) (fail);obtain⟨_,⟨t0,t1,t2,t3⟩,j⟩:=y;have Y:d.cell? ⟨f,0,none⟩=some (ab 0):=ag j 0;have Z:d.cell? ⟨f,1,none⟩=some (ab 0):=ag j 1;have aa:d.cell? ⟨f,2,none⟩=some (af ⟨#[]⟩):=ag j 2;have ad:d.cell? ⟨f,3,none⟩=some (ae none 0 0):=ag j 3;have k:∀E,d.frozen? ⟨f,E,none⟩=false:=λE=>by simp[World.frozen?,j]
  have f0:=k 0;have f1:=k 1;have f2:=k 2;have f3:=k 3;have q:=aq u.2.2.2.1;clear k j;go_wp2_with fail;refine av (v:=.tuple #[.agg #[ab y0,ab y1,af ys,ae ya yl yc],ab 0]) (by simp[results,results72,go_sem,Y,Z,aa,ad]) rfl ⟨rfl,?_⟩;exact O.out _ (((((ap w.heap.size d).setCell q.out _).setCell q.out _).setCell q.out _).setCell q.out _)
variable {base n N:Nat} {wp:BL} {mo:Option Nat} {f:Int×Int->List (Tm (N+1))} {sl:Int×Int->Value} {w:World}
def lO(base:Nat)(wp:BL)(mo:Option Nat)(n N:Nat)(f:Int×Int->List (Tm (N+1)))(sl:Int×Int->Value)(k:Int×Int)(l:List (Tm (N+1)))(w w':World):Prop:=
 ∃a,g8 base wp mo (n+1) (N+1) (iE f k l) a w'/\br (rU wp mo sl) w w'/\∀b,rU wp mo a b->rU wp mo sl b
theorem lO.later{k:Int×Int}{l:List (Tm (N+1))}{w' w2:World}(h:g8 base wp mo n (N+1) f sl w)(g:lO base wp mo n N f sl k l w w')(a:Below w.heap.size w' w2):lO base wp mo n N f sl k l w w2:=by
 obtain⟨o,i,j,d⟩:=g;have e:br (λb=>w.heap.size<=b) w' w2:=⟨a.os,a.tape,a.output,a.size,λb _ c=>a.block b (by omega)⟩;refine⟨o,i.kee e λb c m=>?_,br.trans j e λb c m=>?_,d⟩
 ·have:=(h.lt b (d b c)).2;omega
 ·omega
theorem Hz{base g c L:Nat}{y:Tm (N+1)}{l:List (Tm (N+1))}(b:w.ownsRow base 28 4 (ae (some ⟨g,0,none⟩) L c) L (dk (N+1) (y::l))):w.cell? ⟨g,0,none⟩=some (ab y.1.1)/\w.cell? ⟨g,1,none⟩=some (ab y.1.2.1)/\w.cell? ⟨g,2,none⟩=some (af y.1.2.2)/\w.cell? ⟨g,3,none⟩=some (ae y.2.1.1 y.2.2.length y.2.1.2):=by
 have a:=DS (l:=(y::l).map (gg (N+1))) b 0 (gg (N+1) y) (by simp);simp only[Nat.zero_mul,dc]at a;exact a
theorem Lm(d:g8 base wp mo n (N+1) f sl w){a b:Int}(k:I2 (a,b))(aq:n<999999)(U:(f (a,b)).length<=1000):am 72 #[.pointer (some ⟨wp.b,wp.o,none⟩),ab a,ab b] w λe w'=> (f (a,b)=[]->e=.returned (.tuple #[.agg #[ab 0,ab 0,af ⟨#[]⟩,ae none 0 0],ab 4])/\aj w w')/\ ∀y l,f (a,b)=y::l->e=.returned (.tuple #[df (N+1) y,ab 0])/\lO base wp mo n N f sl (a,b) l w w':=by
 have q:=d.lt wp.b (ah rfl);have x:∀h,aj w h->(Instr.lookup 87 (.map mo) (.agg #[ab a,ab b]) false).run Tryz.prog h=.ok (sl (a,b)) h:=λh g=>(d.later g).look k;cases j:f (a,b)with
 | nil=>
  have s:sl (a,b)=ae none 0 0:=by
   rcases d.2.2 with⟨_,_,rfl⟩|⟨mb,rfl,r⟩
   ·rfl
   ·obtain⟨P,Q,F,G⟩:=r.map;have aa:has P (kl (a,b))=false:=by
     cases hh:has P (kl (a,b))
     ·rfl
     ·obtain⟨t,v,Y,S⟩:=(G _).1 hh;rw[<-qk k v Y]at S;exact absurd j S
    have:=F (a,b) k;rw[atKey_of_not_has aa]at this;injection this with this;exact this.symm
  rw[s]at x;refine(Io wp mo a b w q.2 d.cell.1 x).mono ?_;rintro e w' ⟨rfl,c⟩;exact⟨λ_=>⟨rfl,c⟩,λy l e=>by cases e⟩
 | cons y l=>
  rcases d.2.2 with⟨_,rfl,_⟩|⟨mb,rfl,r⟩
  ·cases j
  ·obtain⟨sa,sc,s,z⟩:=(r.row (a,b) k).at;rw[j]at s z U;have V:=r.lt mb (ah rfl);obtain⟨i,rfl⟩:∃i,sa=some ⟨i,0,none⟩:=by
    rcases z.2 with⟨e,_⟩|⟨i,cap,ap,e,_⟩
    ·simp at e
    ·simp at e;exact⟨i,e.1⟩
   have T:=z.lt i rfl;have M:wp.b≠i:=λe=>Au d k (by rw[s,e];rfl);have X:=Hz z;rw[s]at x;cases hl0:l with
   | nil=>
    subst hl0;refine(yp wp mb i sc 0 y.1.1 y.1.2.1 y.1.2.2 y.2.1.1 y.2.2.length y.2.1.2 a b w (λw'=>lO base wp (some mb) n N f sl (a,b) [] w w') (λ_ _=>True) q.2 T.2 V.2 (wv d) M d.cell.1 x X (ah ⟨rfl,λh g=>?_⟩)).mono ?_
    ·have H:GM base mb n (N+1) f sl h:=r.kee (aJ g λ_=>False) λ_ _ j=>j;obtain⟨u,O,I,m,W⟩:=H.drop k 3;have ad:∀ty,(Builtin.delete_ #[87,198] ty #[.map (some mb),.agg #[ab a,ab b]]).run Tryz.prog h=.ok (.tuple #[]) u:=λty=>O;refine⟨u,ad,m,W,λan J=>?_⟩;have p:lO base wp (some mb) n N f sl (a,b) [] w u:=by
      refine⟨_,⟨d.1,(d.2.1.kept (g.block wp.b q.2)).kept (m.block wp.b (aR q.2 g.size) (wv d)),ai ⟨mb,rfl,I.mono (fQ n)⟩⟩,br.trans (aJ g _) m λB _ e=>ai (ah (by rw[e])),λB c=>?_⟩;rcases c with c|c|⟨t,v,c⟩
      ·exact ah c
      ·exact ai (ah c)
      ·by_cases e:t=(a,b)
       ·rw[e,cJ]at c;simp[mu,Value.ownBlock]at c
       ·rw[bT _ _ e]at c;exact ai (ai ⟨t,v,c⟩)
     exact lO.later d p J
    ·rintro e w' ⟨rfl,p⟩;refine⟨λe=>(by cases e),λao al e=>?_⟩;injection e with D E;subst D E;exact⟨rfl,p⟩
   | cons y2 au=>
    rw[<-hl0];have L:l≠[]:=by rw[hl0];simp
    have Z:1<=l.length:=List.length_pos_iff.2 L;refine(yp wp mb i sc l.length y.1.1 y.1.2.1 y.1.2.2 y.2.1.1 y.2.2.length y.2.1.2 a b w (λw'=>lO base wp (some mb) n N f sl (a,b) l w w') (λh w'=>nS base (N+1) (ae (some ⟨i,0,none⟩) l.length sc) l w'/\w'.heap.size=h.heap.size) q.2 T.2 V.2 (wv d) M d.cell.1 x X (ai ⟨Z,by simp at U;omega,λh g=>?_,λh C R g K=>?_⟩)).mono ?_
    ·refine(Da base i sc l.length y l h rfl (bi z (aJ g λ_=>False) λ_ _ j=>j) L).mono ?_;rintro e w' ⟨rfl,Q,F,G⟩;exact⟨rfl,F,Q,G⟩
    ·have H:GM base mb n (N+1) f sl h:=r.kee (aJ g λ_=>False) λ_ _ j=>j;have A:(sl (a,b)).ownBlock=some i:=by rw[s];rfl
     obtain⟨u,O,I,m,W⟩:=H.store k (w1:=C) ((eh K).mono λb _ e=>A.trans e) L R.1 (λb c=>ah (A.trans c)) (by omega);refine⟨u,O,m,λan J=>?_⟩;have ak:br (rU wp (some mb) sl) w C:=br.trans (aJ g _) (eh K) λB _ e=>ai (ai ⟨(a,b),k,A.trans e⟩);have ag:C.heap[wp.b]?=w.heap[wp.b]? :=(K.block wp.b (aR q.2 g.size) (λe=>M (aw e))).trans (g.block wp.b q.2);have ar:=g.size;have p:lO base wp (some mb) n N f sl (a,b) l w u:=by
      refine⟨_,⟨d.1,(d.2.1.kept ag).kept (m.block wp.b (by rw[R.2];omega) (wv d)),ai ⟨mb,rfl,I⟩⟩,br.trans ak m λB _ e=>ai (ah (by rw[e])),λB c=>?_⟩;rcases c with c|c|⟨t,v,c⟩
      ·exact ah c
      ·exact ai (ah c)
      ·by_cases e:t=(a,b)
       ·rw[e,cJ]at c;exact ai (ai ⟨(a,b),k,A.trans c⟩)
       ·rw[bT _ _ e]at c;exact ai (ai ⟨t,v,c⟩)
     exact lO.later d p J
    ·rintro e w' ⟨rfl,p⟩;refine⟨λe=>(by cases e),λao al e=>?_⟩;injection e with D E;subst D E;exact⟨rfl,p⟩
end Go.Proofs.YtmmahddlcldmiaaGreatDoor
